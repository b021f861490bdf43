import PyProof.Rows.All
import Wide.All
import OpenK.AllK
import Wide.FinOn
import HandS.ForMost
import HandS.Wide
import PySem.Challenge.RW_drawingoffice_k01_acts_of_a_card
import HandS.Codes
import HandS.Walk
import HandS.Style
import HandS.Text
import PyProof.Rows.StrMul
import KE.KxIndex
import HandS.SlotsOwn
import HandS.IterVal
import KE.KOpsOwn
import HandS.DictComp
import HandS.Conv
import HandS.IsInst
import HandS.DictSub
import KE.SortData
import HandS.RaiseMore
import HandS.ForExc
import HandS.ExcInit
import HandS.ExcCtx
import HandS.ExcOwn
import HandS.HotCalls
import HandS.ExcInitHot
import HandS.TupAny
import HandS.OwnEq
import HandS.Property
import HandS.ExcField
import HandS.ExcIs
import KE.KExcIs
import HandS.More
import HandS.Defaults
import HandS.Hot
import HandS.Zip
import HandS.Ends
import PyProof.ReprRoads
import PyProof.ReprLen
import PyProof.FitsInt
import HandS.WordsExc
set_option Elab.async false
set_option linter.all false
set_option maxRecDepth 100000
set_option maxHeartbeats 4000000
namespace DO
open PySem PySem.Spec PyProof.Rows L2
/-! ### the text by places -/
def top (i : Nat) : Stmt := PySem.Challenge.pw_drawingoffice_k01_acts_of_a_card.main.body.getD i (.Pass ⟨0, 0, 0, 0⟩)
/-- a def of the text as the top leaves it: where it stands, under which name, how its arguments bind -/
structure Df (K : PySem.W.Frag) (mg : Str → Option Value) (x : Str) (st : Stmt) (ps : List Str) where
  f : Addr
  fd : FuncData
  mgf : mg x = some (.ref f)
  fn : Fun K x x st f fd
  bd : Binds K fd ps []
/-! ### heaps -/
/-- all that was tracked is as it was, but what stands at s -/
def Kp (s : Addr) (H H' : Hp) : Prop := ∀ b o, H b = some o → b ≠ s → H' b = some o
theorem Kp.refl {s : Addr} {H : Hp} : Kp s H H := fun _ _ h _ => h
theorem Kp.trans {s : Addr} {H H1 H2 : Hp} (a : Kp s H H1) (b : Kp s H1 H2) : Kp s H H2 := fun c o h n => b c o (a c o h n) n
theorem Kp.same {s : Addr} {H H' : Hp} (a : Same H H') : Kp s H H' := fun c o h _ => a c o h
theorem Kp.upd {s : Addr} {H : Hp} {o : HO} : Kp s H (L2.upd H s o) := fun c u h n => by rw [upd_ne n]; exact h
theorem same_upd {H : Hp} {p : Addr} {o : HO} (h : H p = none) : Same H (upd H p o) := fun b x e => by
  rw [upd_ne (ne_of_none e h)]
  exact e
/-- the drawn numbers: a number, a place, the cells -/
def Src (H : Hp) (s c : Addr) : Prop := ∃ (a0 a1 : Int) (ns : List Int), H s = some (.lst [.int a0, .int a1, .ref c]) ∧ 0 ≤ a1 ∧ H c = some (.lst (ns.map V.int)) ∧ ns.length ≤ 63
theorem Src.ne {H : Hp} {s c : Addr} {a0 a1 : Int} {ns : List Int} (h : H s = some (.lst [.int a0, .int a1, .ref c])) (h' : H c = some (.lst (ns.map V.int))) : c ≠ s := by
  intro e
  subst e
  rw [h] at h'
  have h2 := Option.some.inj h'
  injection h2 with h3
  match ns, h3 with
  | [_, _, _], h3 => simp at h3
  | [], h3 => cases h3
  | [_], h3 => cases h3
  | [_, _], h3 => cases h3
  | _ :: _ :: _ :: _ :: _, h3 => cases h3
/-! ### rules that hand on what is known alone -/
section
variable {X : Cx}
theorem op_modL : OpR X (binaryOp .Mod) (fun x y H Q => ∃ i j : Int, x = .int i ∧ y = .int j ∧ 0 < j ∧ ∀ r : Int, 0 ≤ r → r < j → Q (.int r) H) := by
  intro pins s σ H x y v u Q I rx ry h
  obtain ⟨i, j, hx, hy, hj, k⟩ := h
  exact op_mod pins s σ H x y v u Q I rx ry ⟨i, j, hx, hy, hj, k _ (Int.emod_nonneg _ (by omega)) (Int.emod_lt_of_pos _ hj)⟩
theorem op_fdivL : OpR X (binaryOp .FloorDiv) (fun x y H Q => ∃ i j : Int, x = .int i ∧ y = .int j ∧ CDivW i j ∧ ∀ r : Int, Q (.int r) H) := by
  intro pins s σ H x y v u Q I rx ry h
  obtain ⟨i, j, hx, hy, hj, k⟩ := h
  exact op_fdivW pins s σ H x y v u Q I rx ry ⟨i, j, hx, hy, hj, k _⟩
theorem op_mulL : OpR X (binaryOp .Mult) (fun x y H Q => ∃ i j : Int, x = .int i ∧ y = .int j ∧ CMul i j ∧ ∀ r : Int, r = i * j → Q (.int r) H) := by
  intro pins s σ H x y v u Q I rx ry h
  obtain ⟨i, j, hx, hy, hj, k⟩ := h
  exact op_mul pins s σ H x y v u Q I rx ry ⟨i, j, hx, hy, hj, k _ rfl⟩
theorem op_addL : OpR X (binaryOp .Add) (fun x y H Q => ∃ i j : Int, x = .int i ∧ y = .int j ∧ ∀ r : Int, r = i + j → Q (.int r) H) := by
  intro pins s σ H x y v u Q I rx ry h
  obtain ⟨i, j, hx, hy, k⟩ := h
  exact op_add pins s σ H x y v u Q I rx ry ⟨i, j, hx, hy, k _ rfl⟩
theorem op_subL : OpR X (binaryOp .Sub) (fun x y H Q => ∃ i j : Int, x = .int i ∧ y = .int j ∧ ∀ r : Int, r = i - j → Q (.int r) H) := by
  intro pins s σ H x y v u Q I rx ry h
  obtain ⟨i, j, hx, hy, k⟩ := h
  exact op_sub pins s σ H x y v u Q I rx ry ⟨i, j, hx, hy, k _ rfl⟩
theorem call_absL : CallR X (.builtin "abs") (fun xs H Q => ∃ i : Int, xs = [.int i] ∧ ∀ r : Int, 0 ≤ r → r.natAbs = i.natAbs → Q (.int r) H) := by
  intro pins s σ H xs us Q I r h
  obtain ⟨i, hx, k⟩ := h
  exact call_abs pins s σ H xs us Q I r ⟨i, hx, k _ (by split <;> omega) (by split <;> omega)⟩
theorem call_int1L : CallR X (.type "int") (fun xs H Q => ∃ i : Int, xs = [.int i] ∧ Q (.int i) H) := by
  intro pins s σ H xs us Q I r h
  exact call_int1 pins s σ H xs us Q I r (.inl h)
end
end DO

namespace DO
open PySem PySem.Spec PyProof.Rows L2
section
variable {P : Program} {w : World} {K : PySem.W.Frag} {mg : Str → Option Value} {base : Heap}
/-! ### a drawn number is mixed -/
abbrev sMixed : Stmt := top 36
theorem scMixed : FnScope ["_law_cell", "_law_place", "_law_first", "_law_second", "_law_third"] ["_law_cell", "_law_place"] (defScope sMixed) := ⟨rfl, rfl, rfl, by decide +kernel, rfl, by decide +kernel, by decide +kernel⟩
def spMixed : Sp := fun vs H Q _ => ∃ (c p : Int), vs = [.int c, .int p] ∧ ∀ r : Int, Q (.int r) H
theorem ok_mixed (D : Df K mg "_law_mixed" sMixed ["_law_cell", "_law_place"]) (mi : mg "int" = none) (ma : mg "abs" = none) : FnOk P w K mg base CX0 1 D.f D.fd ["_law_cell", "_law_place"] spMixed := by
  refine D.fn.ok scMixed (fun vs H Q E h => ?_) (fun cdv A outer s H vs Q E hr h => ?_)
  · obtain ⟨c, p, rfl, _⟩ := h
    rfl
  · obtain ⟨c, p, rfl, k⟩ := h
    refine ⟨_, pss_cons (ps_set (i := 2) scMixed.nd rfl (.inl rfl) (pe_op op_modL (pe_callTy call_int1L (by rfl) mi (by decide +kernel) (pa_cons (pe_op op_addL (pe_op op_addL (pe_op op_mulL (pe_callB call_absL (by rfl) ma (by decide +kernel) (pa_cons (pv 0) pa_nil)) pe_int) (pe_op op_mulL (pv 1) pe_int)) pe_int) pa_nil)) pe_int))
      (pss_cons (ps_set (i := 3) scMixed.nd rfl (.inl rfl) (pe_op op_modL (pe_callTy call_int1L (by rfl) mi (by decide +kernel) (pa_cons (pe_op op_addL (pe_op op_addL (pe_op op_addL (pe_op op_mulL (pv 2) (pv 2)) (pe_op op_mulL (pe_callB call_absL (by rfl) ma (by decide +kernel) (pa_cons (pv 0) pa_nil)) pe_int)) (pe_op op_mulL (pv 1) pe_int)) pe_int) pa_nil)) pe_int))
      (pss_cons (ps_set (i := 4) scMixed.nd rfl (.inl rfl) (pe_op op_modL (pe_callTy call_int1L (by rfl) mi (by decide +kernel) (pa_cons (pe_op op_addL (pe_op op_addL (pe_op op_mulL (pv 3) pe_int) (pe_op op_mulL (pv 2) pe_int)) pe_int) pa_nil)) pe_int))
      (pss_one (ps_ret (pe_op op_addL (pv 4) pe_int))))), ?_⟩
    refine ⟨_, rfl, _, rfl, fun _ _ _ => ⟨_, _, rfl, rfl, .inr ⟨by decide, by decide⟩, fun _ _ => ⟨_, rfl, _, _, rfl, rfl, .inr ⟨by decide, by decide⟩, fun _ _ => ⟨_, _, rfl, rfl, fun _ _ => ⟨_, _, rfl, rfl, fun _ _ => ⟨_, rfl, _, _, rfl, rfl, by decide, fun x x0 x1 => ?_⟩⟩⟩⟩⟩⟩
    refine ⟨_, rfl, _, rfl, _, _, rfl, rfl, .inr ⟨by omega, by omega⟩, fun _ _ => ⟨_, rfl, _, rfl, fun _ _ _ => ⟨_, _, rfl, rfl, .inr ⟨by decide, by decide⟩, fun _ _ => ⟨_, _, rfl, rfl, fun _ _ => ⟨_, rfl, _, _, rfl, rfl, .inr ⟨by decide, by decide⟩, fun _ _ => ⟨_, _, rfl, rfl, fun _ _ => ⟨_, _, rfl, rfl, fun _ _ => ⟨_, rfl, _, _, rfl, rfl, by decide, fun y y0 y1 => ?_⟩⟩⟩⟩⟩⟩⟩⟩
    refine ⟨_, rfl, _, _, rfl, rfl, .inr ⟨by decide, by decide⟩, fun _ _ => ⟨_, rfl, _, _, rfl, rfl, .inr ⟨by decide, by decide⟩, fun _ _ => ⟨_, _, rfl, rfl, fun _ _ => ⟨_, _, rfl, rfl, fun _ _ => ⟨_, rfl, _, _, rfl, rfl, by decide, fun z z0 z1 => ?_⟩⟩⟩⟩⟩
    exact ⟨_, rfl, _, _, rfl, rfl, fun r _ => k r⟩
end
end DO

namespace DO
open PySem PySem.Spec PyProof.Rows L2
section
variable {P : Program} {w : World} {K : PySem.W.Frag} {mg : Str → Option Value} {base : Heap}
theorem at_int {ns : List Int} {i : Int} (h0 : 0 ≤ i) (h1 : i < ns.length) : ∃ v : Int, atI (ns.map V.int) i = some (.int v) := by
  obtain ⟨j, rfl⟩ := Int.eq_ofNat_of_zero_le h0
  have hj : j < ns.length := by omega
  exact ⟨ns[j], atI_nat (by rw [List.getElem?_map, List.getElem?_eq_getElem hj]; rfl)⟩
theorem sql_of {K : PySem.W.Frag} {H : Hp} {a : Addr} {xs : List V} (h : H a = some (.lst xs)) : SqL K H a xs := .inl (.inl h)
/-! ### the source of drawn numbers -/
abbrev sSource : Stmt := top 37
theorem scSource : FnScope ["_law_script"] ["_law_script"] (defScope sSource) := ⟨rfl, rfl, rfl, by decide +kernel, rfl, by decide +kernel, by decide +kernel⟩
def spSource (K : PySem.W.Frag) : Sp := fun vs H Q _ => ∃ (a : Addr) (ns : List Int), vs = [.ref a] ∧ SqL K H a (ns.map V.int) ∧ ns.length ≤ 63 ∧ ∀ s c H', H s = none → H c = none → Same H H' → Src H' s c → Q (.ref s) H'
theorem ok_source (D : Df K mg "_law_source" sSource ["_law_script"]) (ml : mg "list" = none) : FnOk P w K mg base CX0 1 D.f D.fd ["_law_script"] (spSource K) := by
  refine D.fn.ok scSource (fun vs H Q E h => ?_) (fun cdv A outer s H vs Q E hr h => ?_)
  · obtain ⟨a, ns, rfl, _⟩ := h
    rfl
  · obtain ⟨a, ns, rfl, hS, hl, k⟩ := h
    refine ⟨_, (pss_one (ps_ret (pe_lst (pa_cons pe_int (pa_cons pe_int (pa_cons (pe_callTy call_list_of (by rfl) ml (by decide +kernel) (pa_cons (pv 0) pa_nil)) pa_nil)))))), ?_⟩
    refine ⟨_, rfl, a, _, rfl, .inl hS, fun c nc => ⟨by show 3 ≤ sizeLine; decide, fun p np => ?_⟩⟩
    have npc : p ≠ c := fun e => by
      subst e
      rw [upd_same] at np
      cases np
    have np' : H p = none := by rw [upd_ne npc] at np; exact np
    refine k p c _ np' nc ((same_upd nc).trans (same_upd np)) ⟨0, 0, ns, upd_same, by decide, ?_, hl⟩
    rw [upd_ne npc.symm, upd_same]
/-! ### one choice of many -/
abbrev sTake : Stmt := top 38
theorem scTake : FnScope ["_law_source_here", "_law_many", "_law_cells", "_law_place", "_law_digit"] ["_law_source_here", "_law_many"] (defScope sTake) := ⟨rfl, rfl, rfl, by decide +kernel, rfl, by decide +kernel, by decide +kernel⟩
def spTake : Sp := fun vs H Q _ => ∃ (s c : Addr) (m : Int), vs = [.ref s, .int m] ∧ Src H s c ∧ 0 < m ∧ m.natAbs < 2 ^ 200 ∧ ∀ (d : Int) H', 0 ≤ d → d < m → Kp s H H' → Src H' s c → Q (.int d) H'
theorem ok_take (D : Df K mg "_law_take" sTake ["_law_source_here", "_law_many"]) (D5 : Df K mg "_law_mixed" sMixed ["_law_cell", "_law_place"]) (mi : mg "int" = none) (ma : mg "abs" = none) (ml : mg "len" = none) : FnOk P w K mg base CX0 2 D.f D.fd ["_law_source_here", "_law_many"] spTake := by
  have G : FnOk P w K mg base CX0 1 D5.f D5.fd ["_law_cell", "_law_place"] spMixed := ok_mixed D5 mi ma
  refine D.fn.ok scTake (fun vs H Q E h => ?_) (fun cdv A outer s H vs Q E hr h => ?_)
  · obtain ⟨a, c, m, rfl, _⟩ := h
    rfl
  · obtain ⟨a, c, m, rfl, ⟨a0, a1, ns, hs, p0, hc, hl⟩, m0, mB, k⟩ := h
    refine ⟨_, (C8.pss_cut (ps_if (pt_cmpR op_lt (pe_ix ix_list (pv 0) pe_int (fun _ _ => rfl)) (pe_op op_mulL pe_int (pv 1)) (nomark _))
      (pss_cons (ps_set (i := 2) scTake.nd rfl (.inl rfl) (pe_ix ix_list (pv 0) pe_int (fun _ _ => rfl)))
      (pss_cons (ps_set (i := 3) scTake.nd rfl (.inl rfl) (pe_ix ix_list (pv 0) pe_int (fun _ _ => rfl)))
      (pss_cons (ps_asg (pe_op op_addL (pv 3) pe_int) (pg_sub (pv 0) pe_int set_list))
      (pss_one (ps_if (PW.pt (pw_and (pt_cmpR op_lt (pv 3) (pe_callB call_len_seq (by rfl) ml PySem.boot_len (pa_cons (pv 2) pa_nil)) (nomark _)) (pw_and1 (pt_cmpR op_ge (pe_callB call_absL (by rfl) ma (by decide +kernel) (pa_cons (pe_ix ix_list (pv 2) (pv 3) (fun _ _ => rfl)) pa_nil)) (pe_op op_pow pe_int pe_int) (nomark _)))))
      (pss_one (ps_asg (pe_callB call_absL (by rfl) ma (by decide +kernel) (pa_cons (pe_ix ix_list (pv 2) (pv 3) (fun _ _ => rfl)) pa_nil)) (pg_sub (pv 0) pe_int set_list)))
      (pss_one (ps_if (pt_cmpR op_gt (pe_callB call_len_seq (by rfl) ml PySem.boot_len (pa_cons (pv 2) pa_nil)) pe_int (nomark _))
      (pss_one (ps_asg (pe_call G hr (by rfl) D5.mgf D5.fn.kp D5.bd .nil pass0 (pa_cons (pe_ix ix_list (pv 2) (pe_op op_modL (pe_callTy call_int1L (by rfl) mi (by decide +kernel) (pa_cons (pv 3) pa_nil)) (pe_callB call_len_seq (by rfl) ml PySem.boot_len (pa_cons (pv 2) pa_nil))) (fun _ _ => rfl)) (pa_cons (pv 3) pa_nil))) (pg_sub (pv 0) pe_int set_list)))
      (pss_one (ps_asg (pe_call G hr (by rfl) D5.mgf D5.fn.kp D5.bd .nil pass0 (pa_cons pe_int (pa_cons (pv 3) pa_nil))) (pg_sub (pv 0) pe_int set_list))))))))))
      pss_nil)
      (pss_cons (ps_set (i := 4) scTake.nd rfl (.inl rfl) (pe_op op_modL (pe_callTy call_int1L (by rfl) mi (by decide +kernel) (pa_cons (pe_ix ix_list (pv 0) pe_int (fun _ _ => rfl)) pa_nil)) (pv 1)))
      (pss_cons (ps_asg (pe_op op_fdivL (pe_callTy call_int1L (by rfl) mi (by decide +kernel) (pa_cons (pe_ix ix_list (pv 0) pe_int (fun _ _ => rfl)) pa_nil)) (pv 1)) (pg_sub (pv 0) pe_int set_list))
      (pss_one (ps_ret (pv 4)))))), ?_⟩
    have nca : c ≠ a := Src.ne hs hc
    refine ⟨fun σ' H' => ∃ x2 x3, σ' = [some (.ref a), some (.int m), x2, x3, none] ∧ Src H' a c ∧ Kp a H H', ?_, ?_⟩
    · refine ⟨_, rfl, a, _, 0, .int a0, rfl, rfl, sql_of hs, rfl, _, rfl, 2, m, rfl, rfl, .inl ⟨by decide, by decide⟩, fun z _ => ⟨_, _, rfl, rfl, _, rfl, ite2 (fun _ => ?_) (fun _ => ?_)⟩⟩
      · -- a new cell
        refine ⟨_, rfl, a, _, 2, .ref c, rfl, rfl, sql_of hs, rfl, _, rfl, a, _, 1, .int a1, rfl, rfl, sql_of hs, rfl, _, rfl, _, _, rfl, rfl, fun b1 eb => ⟨_, rfl, a, _, 1, 1, rfl, rfl, hs, rfl, ?_⟩⟩
        have hs1 : (upd H a (.lst ([V.int a0, V.int a1, V.ref c].set 1 (V.int b1)))) a = some (.lst [V.int a0, V.int b1, V.ref c]) := upd_same
        have hc1 : (upd H a (.lst ([V.int a0, V.int a1, V.ref c].set 1 (V.int b1)))) c = some (.lst (ns.map V.int)) := by rw [upd_ne nca]; exact hc
        have kp1 : Kp a H (upd H a (.lst ([V.int a0, V.int a1, V.ref c].set 1 (V.int b1)))) := Kp.upd
        generalize (upd H a (.lst ([V.int a0, V.int a1, V.ref c].set 1 (V.int b1)))) = H1 at hs1 hc1 kp1
        have fin : ∀ r : Int, ∃ p xs k j, V.ref a = .ref p ∧ V.int 0 = .int k ∧ H1 p = some (.lst xs) ∧ ixN xs.length k = some j ∧ (∃ x2 x3, [some (V.ref a), some (V.int m), some (V.ref c), some (V.int a1), none] = [some (V.ref a), some (V.int m), x2, x3, none] ∧ Src (upd H1 p (.lst (xs.set j (.int r)))) a c ∧ Kp a H (upd H1 p (.lst (xs.set j (.int r))))) := fun r =>
          ⟨a, _, 0, 0, rfl, rfl, hs1, rfl, _, _, rfl, ⟨r, b1, ns, upd_same, by omega, by rw [upd_ne nca]; exact hc1, hl⟩, kp1.trans Kp.upd⟩
        refine ⟨_, rfl, _, rfl, c, _, rfl, .inl (sql_of hc1), _, _, rfl, rfl, _, rfl, ?_⟩
        refine ite2 (fun e => ?_) (fun e => ?_)
        · have e1 : a1 < (ns.map V.int).length := of_decide_eq_true e
          rw [List.length_map] at e1
          obtain ⟨cv, hcv⟩ := at_int p0 e1
          refine ⟨_, rfl, _, rfl, c, _, a1, _, rfl, rfl, sql_of hc1, hcv, cv, rfl, fun r r0 r1 => ⟨10, 18, rfl, rfl, ⟨by decide, by decide, by decide⟩, _, _, rfl, rfl, _, rfl, ite2 (fun _ => ?_) (fun _ => ?_)⟩⟩
          · exact ⟨_, rfl, _, rfl, c, _, a1, _, rfl, rfl, sql_of hc1, hcv, cv, rfl, fun r' _ _ => ⟨_, rfl, fin r'⟩⟩
          · skip
            refine ⟨_, rfl, c, _, rfl, .inl (sql_of hc1), _, _, rfl, rfl, _, rfl, ite2 (fun e2 => ?_) (fun _ => ?_)⟩
            · have e3 : (0 : Int) < (ns.map V.int).length := of_decide_eq_true e2
              refine ⟨_, rfl, _, rfl, a1, rfl, _, rfl, c, _, rfl, .inl (sql_of hc1), _, _, rfl, rfl, e3, fun d d0 d1 => ?_⟩
              rw [List.length_map] at d1
              obtain ⟨cv, hcv⟩ := at_int d0 d1
              exact ⟨c, _, d, _, rfl, rfl, sql_of hc1, hcv, _, rfl, cv, a1, rfl, fun r => ⟨_, rfl, fin r⟩⟩
            · exact ⟨_, rfl, 0, a1, rfl, fun r => ⟨_, rfl, fin r⟩⟩
        · skip
          refine ⟨_, rfl, c, _, rfl, .inl (sql_of hc1), _, _, rfl, rfl, _, rfl, ite2 (fun e2 => ?_) (fun _ => ?_)⟩
          · have e3 : (0 : Int) < (ns.map V.int).length := of_decide_eq_true e2
            refine ⟨_, rfl, _, rfl, a1, rfl, _, rfl, c, _, rfl, .inl (sql_of hc1), _, _, rfl, rfl, e3, fun d d0 d1 => ?_⟩
            rw [List.length_map] at d1
            obtain ⟨cv, hcv⟩ := at_int d0 d1
            exact ⟨c, _, d, _, rfl, rfl, sql_of hc1, hcv, _, rfl, cv, a1, rfl, fun r => ⟨_, rfl, fin r⟩⟩
          · exact ⟨_, rfl, 0, a1, rfl, fun r => ⟨_, rfl, fin r⟩⟩
      · exact ⟨none, none, rfl, ⟨a0, a1, ns, hs, p0, hc, hl⟩, Kp.refl⟩
    · rintro σ' H' ⟨x2, x3, rfl, ⟨a0', a1', ns', hs', p0', hc', hl'⟩, kp'⟩
      have nca' : c ≠ a := Src.ne hs' hc'
      refine ⟨_, rfl, a, _, 0, .int a0', rfl, rfl, sql_of hs', rfl, _, rfl, _, rfl, _, _, rfl, rfl, m0, fun d d0 d1 => ?_⟩
      refine ⟨_, rfl, a, _, 0, .int a0', rfl, rfl, sql_of hs', rfl, _, rfl, _, rfl, _, _, rfl, rfl, wide_div m0 mB (by decide) (by decide), fun r => ⟨_, rfl, a, _, 0, 0, rfl, rfl, hs', rfl, _, rfl, ?_⟩⟩
      exact k d _ d0 d1 (kp'.trans Kp.upd) ⟨r, a1', ns', upd_same, p0', by rw [upd_ne nca']; exact hc', hl'⟩
end
end DO

namespace DO
open PySem PySem.Spec PyProof.Rows L2
section
variable {P : Program} {w : World} {K : PySem.W.Frag} {mg : Str → Option Value} {base : Heap}
/-! ### texts of one sign -/
def sg (c : Nat) : Str := ⟨#[c]⟩
def SgL (cs : List Nat) : List V := cs.map fun c => V.str (sg c)
theorem sg_inj {a b : Nat} (h : sg a = sg b) : a = b := by
  have e := congrArg (fun z : Str => z.cps.toList) h
  have e2 : [a] = [b] := e
  injection e2
theorem sg_beq (a b : Nat) : (sg a == sg b) = decide (a = b) := by
  by_cases e : a = b
  · subst e
    simp
  · rw [decide_eq_false e]
    exact beq_eq_false_iff_ne.mpr fun h => e (sg_inj h)
theorem eqV_sg (a b : Nat) : eqV (.str (sg a)) (.str (sg b)) = decide (a = b) := sg_beq a b
theorem inV_sg (c : Nat) (cs : List Nat) : inV (.str (sg c)) (SgL cs) = decide (c ∈ cs) := by
  unfold inV SgL
  induction cs with
  | nil => rfl
  | cons x r ih =>
    rw [List.map_cons, List.any_cons, ih, eqV_sg]
    by_cases e : x = c
    · subst e
      simp
    · have e' : ¬ c = x := fun z => e z.symm
      simp [e, e']
theorem flat_sg (cs : List Nat) : (SgL cs).all flatV = true := by
  unfold SgL
  rw [List.all_eq_true]
  intro x hx
  obtain ⟨c, _, rfl⟩ := List.mem_map.mp hx
  rfl
theorem SgL_len (cs : List Nat) : (SgL cs).length = cs.length := by
  unfold SgL
  rw [List.length_map]
theorem SgL_at {cs : List Nat} {i : Int} (h0 : 0 ≤ i) (h1 : i < cs.length) : ∃ c ∈ cs, atI (SgL cs) i = some (.str (sg c)) := by
  obtain ⟨j, rfl⟩ := Int.eq_ofNat_of_zero_le h0
  have hj : j < cs.length := by omega
  exact ⟨cs[j], List.getElem_mem hj, atI_nat (by unfold SgL; rw [List.getElem?_map, List.getElem?_eq_getElem hj]; rfl)⟩
/-- of a list without repeats each left-out item takes one at most -/
theorem len_ne {l : List Nat} (hl : l.Nodup) (x : Nat) : l.length ≤ (l.filter fun c => !decide (c = x)).length + 1 := by
  induction l with
  | nil => simp
  | cons a r ih =>
    obtain ⟨h1, h2⟩ := List.nodup_cons.mp hl
    by_cases e : a = x
    · subst e
      have q : (r.filter fun c => !decide (c = a)) = r := List.filter_eq_self.mpr fun c hc => by
        have : ¬ c = a := fun z => h1 (z ▸ hc)
        simp [this]
      rw [List.filter_cons, if_neg (by simp), q]
      simp
    · have q := ih h2
      rw [List.filter_cons, if_pos (by simp [e])]
      simp only [List.length_cons]
      omega
theorem len_out {l : List Nat} (hl : l.Nodup) (cs : List Nat) : l.length ≤ (l.filter fun c => !decide (c ∈ cs)).length + cs.length := by
  induction cs with
  | nil =>
    have q : (l.filter fun c => !decide (c ∈ ([] : List Nat))) = l := List.filter_eq_self.mpr fun c _ => by simp
    rw [q]
    simp
  | cons x r ih =>
    have e : (l.filter fun c => !decide (c ∈ x :: r)) = ((l.filter fun c => !decide (c ∈ r)).filter fun c => !decide (c = x)) := by
      rw [List.filter_filter]
      apply List.filter_congr
      intro c _
      by_cases h1 : c = x <;> by_cases h2 : c ∈ r <;> simp [h1, h2]
    have q := len_ne (hl.filter (fun c => !decide (c ∈ r))) x
    rw [e, List.length_cons]
    omega
theorem iteF' {b : Bool} {A B : Prop} (e : b = false) (h : B) : if b = true then A else B := by
  subst e
  exact iteF h
theorem iteT' {b : Bool} {A B : Prop} (e : b = true) (h : A) : if b = true then A else B := by
  subst e
  exact iteT h
theorem Src.of_same {H H' : Hp} {a c : Addr} (h : Src H a c) (e : Same H H') : Src H' a c := by
  obtain ⟨a0, a1, ns, hs, p0, hc, hl⟩ := h
  exact ⟨a0, a1, ns, e _ _ hs, p0, e _ _ hc, hl⟩
theorem Src.of_upd {H : Hp} {a c f : Addr} {o : HO} (h : Src H a c) (h1 : a ≠ f) (h2 : c ≠ f) : Src (upd H f o) a c := by
  obtain ⟨a0, a1, ns, hs, p0, hc, hl⟩ := h
  exact ⟨a0, a1, ns, by rw [upd_ne h1]; exact hs, p0, by rw [upd_ne h2]; exact hc, hl⟩
/-! ### some signs -/
end
end DO

namespace DO
open PySem PySem.Spec PyProof.Rows L2
section
variable {P : Program} {w : World} {K : PySem.W.Frag} {mg : Str → Option Value} {base : Heap}
/-! ### texts -/
def tx (ds : List Nat) : Str := ⟨ds.toArray⟩
theorem tx_of (z : Str) : ∃ ds, z = tx ds := ⟨z.cps.toList, by unfold tx; simp⟩
theorem tx_list (ds : List Nat) : (tx ds).cps.toList = ds := by simp [tx]
theorem tx_len (ds : List Nat) : (tx ds).length = ds.length := by
  show ds.toArray.size = ds.length
  simp
theorem tx_inj {a b : List Nat} (h : tx a = tx b) : a = b := by
  have := congrArg (fun z : Str => z.cps.toList) h
  simpa [tx] using this
theorem tx_app (a b : List Nat) : tx a ++ tx b = tx (a ++ b) := by
  show (⟨a.toArray ++ b.toArray⟩ : Str) = ⟨(a ++ b).toArray⟩
  simp
theorem sg_tx (c : Nat) : sg c = tx [c] := rfl
theorem atI_mem {l : List Nat} {i : Int} (h0 : 0 ≤ i) (h1 : i < l.length) : ∃ c ∈ l, atI l i = some c := by
  obtain ⟨j, rfl⟩ := Int.eq_ofNat_of_zero_le h0
  have hj : j < l.length := by omega
  exact ⟨l[j], List.getElem_mem hj, atI_nat (List.getElem?_eq_getElem hj)⟩
def az : Str := "abcdefghijklmnopqrstuvwxyz"
def azn : Str := az ++ "0123456789"
theorem az_len : az.cps.toList.length = 26 := by decide +kernel
theorem azn_len : azn.cps.toList.length = 36 := by decide +kernel
theorem az_sub : ∀ c ∈ az.cps.toList, c ∈ azn.cps.toList := by decide +kernel
/-- a name's signs, whatever its length -/
def Wd (ds : List Nat) : Prop := ∃ c r, ds = c :: r ∧ c ∈ az.cps.toList ∧ ∀ x ∈ r, x ∈ azn.cps.toList
theorem Wd.snoc {ds : List Nat} {c : Nat} (h : Wd ds) (hc : c ∈ azn.cps.toList) : Wd (ds ++ [c]) := by
  obtain ⟨x, r, rfl, h1, h2⟩ := h
  refine ⟨x, r ++ [c], rfl, h1, fun y hy => ?_⟩
  rcases List.mem_append.mp hy with z | z
  · exact h2 y z
  · rw [List.mem_singleton.mp z]
    exact hc
abbrev sWord : Stmt := top 39
theorem scWord : FnScope ["_law_source_here", "_law_size", "_law_letters", "_law_signs", "_law_word_here", "_law_k"] ["_law_source_here", "_law_size"] (defScope sWord) := ⟨rfl, rfl, rfl, by decide +kernel, rfl, by decide +kernel, by decide +kernel⟩
def spWord : Sp := fun vs H Q _ => ∃ (a c : Addr) (n : Int), vs = [.ref a, .int n] ∧ Src H a c ∧ 1 ≤ n ∧ n ≤ 12 ∧ ∀ (ds : List Nat) H', (ds.length : Int) = n → Wd ds → Kp a H H' → Src H' a c → Q (.str (tx ds)) H'
theorem ok_word (D : Df K mg "_law_word" sWord ["_law_source_here", "_law_size"]) (D7 : Df K mg "_law_take" sTake ["_law_source_here", "_law_many"]) (G : FnOk P w K mg base CX0 2 D7.f D7.fd ["_law_source_here", "_law_many"] spTake)
    (mr : mg "range" = none) : FnOk P w K mg base CX0 3 D.f D.fd ["_law_source_here", "_law_size"] spWord := by
  refine D.fn.ok scWord (fun vs H Q E h => ?_) (fun cdv A outer s H vs Q E hr h => ?_)
  · obtain ⟨a, c, n, rfl, _⟩ := h
    rfl
  · obtain ⟨a, c, n, rfl, hsrc, n1, n12, k⟩ := h
    refine ⟨_, (pss_cons (ps_set (i := 2) scWord.nd rfl (.inl rfl) pe_str)
      (pss_cons (ps_set (i := 3) scWord.nd rfl (.inl rfl) (pe_op op_add_str (pv 2) pe_str))
      (pss_cons (ps_set (i := 4) scWord.nd rfl (.inl rfl) (pe_ix ix_str (pv 2) (pe_call G hr (by rfl) D7.mgf D7.fn.kp D7.bd .nil pass0 (pa_cons (pv 0) (pa_cons pe_int pa_nil))) (fun _ _ => rfl)))
      (pss_cons (ps_for PassesOwn.never rfl (pi_range1 rfl mr (pa_cons (pe_op op_subL (pv 1) pe_int) pa_nil)) (pg_name (i := 5) scWord.nd rfl (Or.inl rfl))
      (pss_one (ps_set (i := 4) scWord.nd rfl (.inl rfl) (pe_op op_add_str (pv 4) (pe_ix ix_str (pv 3) (pe_call G hr (by rfl) D7.mgf D7.fn.kp D7.bd .nil pass0 (pa_cons (pv 0) (pa_cons pe_int pa_nil))) (fun _ _ => rfl))))))
      (pss_one (ps_ret (pv 4))))))), ?_⟩
    refine ⟨_, rfl, _, _, rfl, rfl, (by decide +kernel), ?_⟩
    refine ⟨_, rfl, _, rfl, a, c, 26, rfl, hsrc, by decide, by decide, fun t H1 t0 t1 kp1 sr1 => ?_⟩
    obtain ⟨c0, hc0, hat0⟩ := atI_mem (l := az.cps.toList) t0 (by rw [az_len]; exact t1)
    refine ⟨az, t, c0, rfl, rfl, (by decide +kernel), hat0, ?_⟩
    refine ⟨_, rfl, n, 1, rfl, rfl, fun m em => ⟨m, rfl, by omega, by omega, for_range (lo := 0) (n := m.toNat) (fun i σ H2 => ∃ (ds : List Nat) (x : Option V), σ = [some (.ref a), some (.int n), some (.str az), some (.str azn), some (.str (tx ds)), x] ∧ ds.length = i + 1 ∧ Wd ds ∧ Kp a H H2 ∧ Src H2 a c) ⟨[c0], none, rfl, rfl, ⟨c0, [], rfl, hc0, fun x hx => by simp at hx⟩, kp1, sr1⟩ ?_ ?_⟩⟩
    · rintro i σ H2 hi ⟨ds, x, rfl, hl, hw, kp, sr⟩
      refine ⟨_, rfl, _, rfl, _, rfl, a, c, 36, rfl, sr, by decide, by decide, fun t2 H3 t20 t21 kp2 sr2 => ?_⟩
      obtain ⟨c1, hc1, hat1⟩ := atI_mem (l := azn.cps.toList) t20 (by rw [azn_len]; exact t21)
      refine ⟨azn, t2, c1, rfl, rfl, (by decide +kernel), hat1, _, _, rfl, rfl, ?_, ?_⟩
      · rw [tx_len, hl]
        show i + 1 + 1 ≤ 16777216
        omega
      · rw [← show sg c1 = (⟨#[c1]⟩ : Str) from rfl, sg_tx, tx_app]
        exact ⟨ds ++ [c1], _, rfl, by rw [List.length_append, hl]; rfl, hw.snoc hc1, kp.trans kp2, sr2⟩
    · rintro σ H2 ⟨ds, x, rfl, hl, hw, kp, sr⟩
      exact ⟨_, rfl, k ds H2 (by omega) hw kp sr⟩
end
end DO

namespace DO
open PySem PySem.Spec PyProof.Rows L2
section
variable {P : Program} {w : World} {K : PySem.W.Frag} {mg : Str → Option Value} {base : Heap}
/-! ### a sign, n times -/
theorem fold_rep (c : Nat) : ∀ (n : Nat) (acc : Array Nat), ((List.replicate n #[c]).foldl (· ++ ·) acc).toList = acc.toList ++ List.replicate n c
  | 0, acc => by simp
  | n + 1, acc => by
    rw [List.replicate_succ, List.foldl_cons, fold_rep c n]
    simp [List.replicate_succ]
theorem mul_sg (c : Nat) {i : Int} (h : 0 ≤ i) : Txt.mul (sg c) i = tx (List.replicate i.toNat c) := by
  have e : ∀ a b : Str, a.cps.toList = b.cps.toList → a = b := fun a b q => by
    cases a
    cases b
    exact congrArg Str.mk (Array.toList_inj.mp q)
  apply e
  rw [tx_list]
  unfold Txt.mul
  by_cases h1 : i < 1
  · rw [if_pos h1, show i.toNat = 0 by omega]
    rfl
  · rw [if_neg h1]
    by_cases h2 : i = 1
    · subst h2
      rfl
    · have h3 : (i == 1 || (sg c).length == 0) = false := by
        have : (sg c).length = 1 := rfl
        simp [h2, this]
      rw [h3]
      show ((List.replicate i.toNat #[c]).foldl (· ++ ·) #[]).toList = _
      rw [fold_rep]
      simp
theorem op_mulT {X : Cx} : OpR X (binaryOp .Mult) (fun x y H Q => ∃ (c : Nat) (i : Int), x = .str (sg c) ∧ y = .int i ∧ 0 ≤ i ∧ i ≤ 1000 ∧ Q (.str (tx (List.replicate i.toNat c))) H) := by
  intro pins s σ H x y v u Q I rx ry h
  obtain ⟨c, i, rfl, rfl, h0, h1, q⟩ := h
  obtain ⟨t, rfl⟩ := rx
  obtain ⟨t2, rfl⟩ := ry
  refine PySem.W.KXi.mul (n := 1) rfl (by decide) (by omega) (by omega) fun t' k _ _ => ⟨.str (tx (List.replicate i.toNat c)), H, I.tok k, ⟨t', ?_⟩, q⟩
  rw [mul_sg c h0]
/-! ### names -/
structure Nm (ds : List Nat) : Prop where
  wd : Wd ds
  len : ds.length ≤ 12
  fr : tx ds ≠ "frame"
theorem Wd.all {ds : List Nat} (h : Wd ds) : ∀ x ∈ ds, x ∈ azn.cps.toList := by
  obtain ⟨c, r, rfl, h1, h2⟩ := h
  intro x hx
  rcases List.mem_cons.mp hx with z | z
  · rw [z]
    exact az_sub c h1
  · exact h2 x z
theorem Wd.ne {ds : List Nat} (h : Wd ds) : 1 ≤ ds.length := by
  obtain ⟨c, r, rfl, _⟩ := h
  exact Nat.succ_pos _
theorem Wd.app {a b : List Nat} (h : Wd a) (hb : ∀ x ∈ b, x ∈ azn.cps.toList) : Wd (a ++ b) := by
  obtain ⟨c, r, rfl, h1, h2⟩ := h
  refine ⟨c, r ++ b, rfl, h1, fun y hy => ?_⟩
  rcases List.mem_append.mp hy with z | z
  · exact h2 y z
  · exact hb y z
theorem Wd.take {a : List Nat} (h : Wd a) {n : Nat} (hn : 1 ≤ n) : Wd (a.take n) := by
  obtain ⟨c, r, rfl, h1, h2⟩ := h
  obtain ⟨j, rfl⟩ : ∃ j, n = j + 1 := ⟨n - 1, by omega⟩
  exact ⟨c, r.take j, rfl, h1, fun x hx => h2 x (List.mem_of_mem_take hx)⟩
/-- the digits behind a name -/
def dg (j : Nat) : List Nat := (Str.ofString (toString (j : Int))).cps.toList
theorem dg_ok : ((List.range 40).all fun j => decide ((dg j).length ≤ 2) && decide (1 ≤ (dg j).length) && (dg j).all (fun x => decide (x ∈ azn.cps.toList)) && decide ((dg j).getLast? ≠ some 101)) = true := by decide +kernel
theorem dg_at {j : Nat} (h : j < 40) : (dg j).length ≤ 2 ∧ 1 ≤ (dg j).length ∧ (∀ x ∈ dg j, x ∈ azn.cps.toList) ∧ (dg j).getLast? ≠ some 101 := by
  have := List.all_eq_true.mp dg_ok j (List.mem_range.mpr h)
  rw [Bool.and_eq_true, Bool.and_eq_true, Bool.and_eq_true] at this
  obtain ⟨⟨⟨a, b⟩, c⟩, d⟩ := this
  exact ⟨of_decide_eq_true a, of_decide_eq_true b, fun x hx => of_decide_eq_true (List.all_eq_true.mp c x hx), of_decide_eq_true d⟩
theorem dg_frame {w : List Nat} {j : Nat} (h : j < 40) : tx (w ++ dg j) ≠ "frame" := fun e => by
  obtain ⟨h1, h2, h3, h4⟩ := dg_at h
  have e2 : w ++ dg j = (Str.ofString "frame").cps.toList := by
    have := congrArg (fun z : Str => z.cps.toList) e
    simpa [tx] using this
  have e3 : (w ++ dg j).getLast? = some 101 := by
    rw [e2]
    decide +kernel
  rw [List.getLast?_append] at e3
  cases q : (dg j).getLast? with
  | none =>
    have := List.getLast?_eq_none_iff.mp q
    rw [this] at h2
    exact absurd h2 (by decide)
  | some x =>
    rw [q] at e3 h4
    simp at e3
    exact h4 (by rw [e3])
def NmL (ns : List (List Nat)) : List V := ns.map fun ds => V.str (tx ds)
theorem flat_nm (ns : List (List Nat)) : (NmL ns).all flatV = true := by
  unfold NmL
  rw [List.all_map]
  exact List.all_eq_true.mpr fun _ _ => rfl
theorem Kp.free {a p : Addr} {H H' : Hp} {o : HO} (k : Kp a H H') (ha : H' a = some o) (hp : H' p = none) : H p = none := by
  cases e : H p with
  | none => rfl
  | some x =>
    have : p ≠ a := fun z => by
      rw [z, ha] at hp
      cases hp
    rw [k _ _ e this] at hp
    cases hp
theorem tx_cps (z : Str) : tx z.cps.toList = z := by simp [tx]
theorem sz16 {n : Nat} (h : n ≤ 1000) : n ≤ sizeLine := Nat.le_of_lt (small1000 h)
theorem not_frame {w : List Nat} (e : ¬ decide (V.str (tx w) = V.str (Str.ofString "frame")) = true) : tx w ≠ "frame" := fun z => e (decide_eq_true (congrArg V.str z))
abbrev sNames : Stmt := top 40
theorem scNames : FnScope ["_law_source_here", "_law_many", "_law_letters", "_law_shape", "_law_size", "_law_spot", "_law_shift", "_law_stem", "_law_found", "_law_k", "_law_word_here", "_law_j"] ["_law_source_here", "_law_many"] (defScope sNames) := ⟨rfl, rfl, rfl, by decide +kernel, rfl, by decide +kernel, by decide +kernel⟩
def spNames : Sp := fun vs H Q _ => ∃ (a c : Addr) (m : Int), vs = [.ref a, .int m] ∧ Src H a c ∧ 1 ≤ m ∧ m ≤ 18 ∧
  ∀ (ns : List (List Nat)) (f : Addr) H', H f = none → (ns.length : Int) = m → (∀ ds ∈ ns, Nm ds) → H' f = some (.lst (NmL ns)) → Kp a H H' → Src H' a c → Q (.ref f) H'
theorem ok_names (D : Df K mg "_law_names" sNames ["_law_source_here", "_law_many"]) (D7 : Df K mg "_law_take" sTake ["_law_source_here", "_law_many"]) (G : FnOk P w K mg base CX0 2 D7.f D7.fd ["_law_source_here", "_law_many"] spTake)
    (DW : Df K mg "_law_word" sWord ["_law_source_here", "_law_size"]) (GW : FnOk P w K mg base CX0 3 DW.f DW.fd ["_law_source_here", "_law_size"] spWord)
    (mr : mg "range" = none) (mi : mg "int" = none) (ms : mg "str" = none) : FnOk P w K mg base CX0 4 D.f D.fd ["_law_source_here", "_law_many"] spNames := by
  refine D.fn.ok scNames (fun vs H Q E h => ?_) (fun cdv A outer s H vs Q E hr h => ?_)
  · obtain ⟨a, c, n, rfl, _⟩ := h
    rfl
  · obtain ⟨a, c, m, rfl, hsrc, m1, m10, k⟩ := h
    refine ⟨_, (pss_cons (ps_set (i := 2) scNames.nd rfl (.inl rfl) pe_str)
      (pss_cons (ps_set (i := 3) scNames.nd rfl (.inl rfl) (pe_call G (hr.mono (by decide)) (by rfl) D7.mgf D7.fn.kp D7.bd .nil pass0 (pa_cons (pv 0) (pa_cons pe_int pa_nil))))
      (pss_cons (ps_set (i := 4) scNames.nd rfl (.inl rfl) (pe_op op_addL pe_int (pe_call G (hr.mono (by decide)) (by rfl) D7.mgf D7.fn.kp D7.bd .nil pass0 (pa_cons (pv 0) (pa_cons pe_int pa_nil)))))
      (pss_cons (ps_set (i := 5) scNames.nd rfl (.inl rfl) (pe_call G (hr.mono (by decide)) (by rfl) D7.mgf D7.fn.kp D7.bd .nil pass0 (pa_cons (pv 0) (pa_cons (pv 4) pa_nil))))
      (pss_cons (ps_set (i := 6) scNames.nd rfl (.inl rfl) (pe_call G (hr.mono (by decide)) (by rfl) D7.mgf D7.fn.kp D7.bd .nil pass0 (pa_cons (pv 0) (pa_cons pe_int pa_nil))))
      (pss_cons (ps_set (i := 7) scNames.nd rfl (.inl rfl) (pe_call GW hr (by rfl) DW.mgf DW.fn.kp DW.bd .nil pass0 (pa_cons (pv 0) (pa_cons (pv 4) pa_nil))))
      (pss_cons (ps_set (i := 8) scNames.nd rfl (.inl rfl) (pe_lst pa_nil))
      (pss_cons (ps_for PassesOwn.never rfl (pi_range1 rfl mr (pa_cons (pv 1) pa_nil)) (pg_name (i := 9) scNames.nd rfl (Or.inl rfl))
      (pss_cons (ps_set (i := 10) scNames.nd rfl (.inl rfl) (pe_op op_add_str (pe_op op_add_str (pe_slice C8.sl_txt (pv 7) po_none (po_some (pv 5))) (pe_ix ix_str (pv 2) (pe_op op_modL (pe_callTy call_int1L (by rfl) mi (by decide +kernel) (pa_cons (pe_op op_addL (pv 6) (pv 9)) pa_nil)) pe_int) (fun _ _ => rfl))) (pe_slice C8.sl_txt (pv 7) (po_some (pe_op op_addL (pv 5) pe_int)) po_none)))
      (C8.pss_cut (ps_if (pt_cmpR op_eq (pv 3) pe_int (nomark _))
      (pss_one (ps_set (i := 10) scNames.nd rfl (.inl rfl) (pe_slice C8.sl_txt (pe_op op_add_str (pe_slice C8.sl_txt (pv 7) po_none (po_some pe_int)) (pe_op op_mulT (pe_ix ix_str (pv 2) (pv 6) (fun _ _ => rfl)) (pv 9))) po_none (po_some pe_int))))
      (pss_one (ps_if (pt_cmpR op_gt (pv 3) pe_int (nomark _))
      (pss_one (ps_set (i := 10) scNames.nd rfl (.inl rfl) (pe_call GW hr (by rfl) DW.mgf DW.fn.kp DW.bd .nil pass0 (pa_cons (pv 0) (pa_cons (pe_op op_addL pe_int (pe_call G (hr.mono (by decide)) (by rfl) D7.mgf D7.fn.kp D7.bd .nil pass0 (pa_cons (pv 0) (pa_cons (pe_ifExp (pt_cmpR op_eq (pv 3) pe_int (nomark _)) pe_int pe_int) pa_nil)))) pa_nil)))))
      pss_nil)))
      (pss_cons (ps_for PassesOwn.never rfl (pi_range1 rfl mr (pa_cons pe_int pa_nil)) (pg_name (i := 11) scNames.nd rfl (Or.inl rfl))
      (pss_one (ps_if (PW.pt (pw_or (pt_cmpR (show OpR _ _ (rIn K false) from op_in_seq) (pv 10) (pv 8) rfl) (pw_or1 (pt_cmpR op_eq (pv 10) pe_str (nomark _)))))
      (pss_one (ps_set (i := 10) scNames.nd rfl (.inl rfl) (pe_op op_add_str (pe_slice C8.sl_txt (pv 10) po_none (po_some pe_int)) (pe_callTy call_str_int (by rfl) ms (by decide +kernel) (pa_cons (pv 11) pa_nil)))))
      pss_nil)))
      (pss_one (ps_expr (pe_bm PySem.F.plainAttrs_list PySem.F.slot_list_append PySem.F.type_list_append mt_append (pv 8) (pa_cons (pv 10) pa_nil))))))))
      (pss_cons (ps_if (pt_cmpR op_eq (pe_call G (hr.mono (by decide)) (by rfl) D7.mgf D7.fn.kp D7.bd .nil pass0 (pa_cons (pv 0) (pa_cons pe_int pa_nil))) pe_int (nomark _))
      (pss_one (ps_ret (pe_revL (pv 8))))
      pss_nil)
      (pss_one (ps_ret (pv 8)))))))))))), ?_⟩
    refine ⟨_, rfl, a, c, 4, rfl, hsrc, by decide, by decide, fun sh H1 sh0 sh1 kp1 sr1 => ?_⟩
    refine ⟨_, rfl, a, c, 12, rfl, sr1, by decide, by decide, fun z H2 z0 z1 kp2 sr2 => ⟨_, _, rfl, rfl, fun sz esz => ?_⟩⟩
    refine ⟨_, rfl, _, rfl, a, c, sz, rfl, sr2, by omega, Nat.lt_of_le_of_lt (show sz.natAbs ≤ 100 by omega) (by decide), fun sp H3 sp0 sp1 kp3 sr3 => ?_⟩
    refine ⟨_, rfl, a, c, 26, rfl, sr3, by decide, by decide, fun sf H4 sf0 sf1 kp4 sr4 => ?_⟩
    refine ⟨_, rfl, _, rfl, a, c, sz, rfl, sr4, by omega, by omega, fun st H5 hst hw kp5 sr5 => ?_⟩
    refine ⟨Nat.zero_le _, fun f nf => ?_⟩
    have kp05 := (((kp1.trans kp2).trans kp3).trans kp4).trans kp5
    have stl : (tx st).length = st.length := tx_len st
    obtain ⟨_, _, _, hs5, _, hc5, _⟩ := id sr5
    have nfa : f ≠ a := (ne_of_none hs5 nf).symm
    have nfc : c ≠ f := ne_of_none hc5 nf
    have nf0 : H f = none := kp05.free hs5 nf
    obtain ⟨l1, hl1, hat1⟩ := atI_mem (l := az.cps.toList) sf0 (by rw [az_len]; exact sf1)
    have azl : az.length ≤ sizeLine := by decide +kernel
    refine ⟨_, rfl, m, rfl, by omega, by omega, for_range (lo := 0) (n := m.toNat) (fun i σ H2 => ∃ (ns : List (List Nat)) (x9 x10 x11 : Option V), σ = [some (.ref a), some (.int m), some (.str az), some (.int sh), some (.int sz), some (.int sp), some (.int sf), some (.str (tx st)), some (.ref f), x9, x10, x11] ∧ ns.length = i ∧ (∀ ds ∈ ns, Nm ds) ∧ H2 f = some (.lst (NmL ns)) ∧ Kp a H H2 ∧ Src H2 a c)
      ⟨[], none, none, none, rfl, rfl, fun x hx => by simp at hx, upd_same, kp05.trans (Kp.same (same_upd nf)), sr5.of_same (same_upd nf)⟩ ?_ ?_⟩
    · rintro i σ H6 hi ⟨ns, x9, x10, x11, rfl, hl, hns, hf, kp, sr⟩
      have e1 : Txt.slice (tx st) none (some sp) = tx (st.take sp.toNat) := SX.slice_to sp0
      refine ⟨_, rfl, _, rfl, sp, rfl, tx st, rfl, sz16 (by omega), ?_⟩
      rw [e1]
      refine ⟨_, rfl, _, rfl, _, rfl, _, _, rfl, rfl, fun r er => ⟨r, rfl, r, 26, rfl, rfl, by decide, fun q q0 q1 => ?_⟩⟩
      obtain ⟨l2, hl2, hat2⟩ := atI_mem (l := az.cps.toList) q0 (by rw [az_len]; exact q1)
      refine ⟨az, q, l2, rfl, rfl, azl, hat2, _, _, rfl, rfl, ?_, ?_⟩
      · rw [tx_len, List.length_take]
        exact sz16 (show _ + 1 ≤ 1000 by omega)
      rw [← show sg l2 = (⟨#[l2]⟩ : Str) from rfl, sg_tx, tx_app]
      refine ⟨_, rfl, _, rfl, _, _, rfl, rfl, fun r2 er2 => ⟨r2, rfl, tx st, rfl, sz16 (by omega), ?_⟩⟩
      rw [show Txt.slice (tx st) (some r2) none = tx (st.drop r2.toNat) from SX.slice_from (by omega)]
      refine ⟨_, _, rfl, rfl, ?_, ?_⟩
      · rw [tx_len, tx_len, List.length_append, List.length_take, List.length_drop]
        exact sz16 (show _ + 1 + _ ≤ 1000 by omega)
      rw [tx_app]
      have hw0 : Wd (st.take sp.toNat ++ [l2] ++ st.drop r2.toNat) := by
        have ha : ∀ x ∈ st.drop r2.toNat, x ∈ azn.cps.toList := fun x hx => hw.all x (List.mem_of_mem_drop hx)
        refine Wd.app ?_ ha
        by_cases z : sp.toNat = 0
        · rw [z]
          exact ⟨l2, [], rfl, hl2, fun x hx => by simp at hx⟩
        · exact (hw.take (by omega)).snoc (az_sub _ hl2)
      have hl0 : (st.take sp.toNat ++ [l2] ++ st.drop r2.toNat).length ≤ 12 := by
        rw [List.length_append, List.length_append, List.length_take, List.length_drop]
        show _ + 1 + _ ≤ 12
        omega
      generalize st.take sp.toNat ++ [l2] ++ st.drop r2.toNat = w0 at hw0 hl0
      -- by its shape
      refine ⟨fun σ' H' => ∃ w y9, σ' = [some (.ref a), some (.int m), some (.str az), some (.int sh), some (.int sz), some (.int sp), some (.int sf), some (.str (tx st)), some (.ref f), y9, some (.str (tx w)), x11] ∧ Wd w ∧ w.length ≤ 12 ∧ H' f = some (.lst (NmL ns)) ∧ Kp a H H' ∧ Src H' a c, ?_, ?_⟩
      · refine ⟨_, rfl, rfl, _, rfl, ite2 (fun _ => ?_) (fun _ => ?_)⟩
        · refine ⟨_, rfl, 1, rfl, tx st, rfl, sz16 (by omega), ?_⟩
          rw [show Txt.slice (tx st) none (some 1) = tx (st.take 1) from SX.slice_to (by decide)]
          refine ⟨_, rfl, _, rfl, az, sf, l1, rfl, rfl, azl, hat1, _, rfl, l1, _, rfl, rfl, by omega, by omega, _, _, rfl, rfl, ?_, ?_⟩
          · rw [tx_len, tx_len, List.length_take, List.length_replicate]
            exact sz16 (by omega)
          rw [tx_app]
          refine ⟨12, rfl, _, rfl, ?_, ?_⟩
          · rw [tx_len, List.length_append, List.length_take, List.length_replicate]
            exact sz16 (by omega)
          rw [show Txt.slice (tx (st.take 1 ++ List.replicate (0 + (i : Int)).toNat l1)) none (some 12) = tx ((st.take 1 ++ List.replicate (0 + (i : Int)).toNat l1).take 12) from SX.slice_to (by decide)]
          refine ⟨_, _, rfl, Wd.take ((hw.take (by decide)).app fun x hx => ?_) (by decide), ?_, hf, kp, sr⟩
          · rw [List.eq_of_mem_replicate hx]
            exact az_sub _ hl1
          · rw [List.length_take]
            exact Nat.min_le_left _ _
        · refine ⟨_, rfl, _, _, rfl, rfl, _, rfl, ite2 (fun _ => ?_) (fun _ => ?_)⟩
          · refine ⟨_, rfl, _, rfl, _, rfl, rfl, _, rfl, ite2 (fun _ => ?_) (fun _ => ?_)⟩
            · refine ⟨a, c, 12, rfl, sr, by decide, by decide, fun t H7 t0 t1 kp7 sr7 => ⟨_, _, rfl, rfl, fun r3 er3 => ⟨a, c, r3, rfl, sr7, by omega, by omega, fun w H8 hwl hww kp8 sr8 => ?_⟩⟩⟩
              exact ⟨w, _, rfl, hww, by omega, kp8 _ _ (kp7 _ _ hf nfa) nfa, (kp.trans kp7).trans kp8, sr8⟩
            · refine ⟨a, c, 2, rfl, sr, by decide, by decide, fun t H7 t0 t1 kp7 sr7 => ⟨_, _, rfl, rfl, fun r3 er3 => ⟨a, c, r3, rfl, sr7, by omega, by omega, fun w H8 hwl hww kp8 sr8 => ?_⟩⟩⟩
              exact ⟨w, _, rfl, hww, by omega, kp8 _ _ (kp7 _ _ hf nfa) nfa, (kp.trans kp7).trans kp8, sr8⟩
          · exact ⟨w0, _, rfl, hw0, hl0, hf, kp, sr⟩
      rintro σ' H7 ⟨w1, y9, rfl, hw1, hl1', hf7, kp7, sr7⟩
      -- no name twice, not the frame
      refine ⟨40, rfl, by decide, by decide, for_range (lo := 0) (n := 40) (fun j σ H2 => ∃ (w : List Nat) (y : Option V), σ = [some (.ref a), some (.int m), some (.str az), some (.int sh), some (.int sz), some (.int sp), some (.int sf), some (.str (tx st)), some (.ref f), y9, some (.str (tx w)), y] ∧ Wd w ∧ w.length ≤ 12 ∧ (1 ≤ j → tx w ≠ "frame") ∧ H2 = H7) ⟨w1, x11, rfl, hw1, hl1', fun z => absurd z (by decide), rfl⟩ ?_ ?_⟩
      · rintro j σ H8 hj ⟨w, y, rfl, hw2, hl2', hfr, rfl⟩
        obtain ⟨d1, d2, d3, d4⟩ := dg_at hj
        have big : Wd (w.take 10 ++ dg j) ∧ (w.take 10 ++ dg j).length ≤ 12 ∧ (1 ≤ j + 1 → tx (w.take 10 ++ dg j) ≠ "frame") := ⟨(hw2.take (by decide)).app d3, by rw [List.length_append, List.length_take]; omega, fun _ => dg_frame hj⟩
        have hs10 : Txt.slice (tx w) none (some 10) = tx (w.take 10) := SX.slice_to (by decide)
        have log : ((0 : Int) + (j : Int)).natAbs.log2 < 1920 := by
          have h1 : ((0 : Int) + (j : Int)).natAbs.log2 ≤ ((0 : Int) + (j : Int)).natAbs := by
            exact Nat.log2_le_self _
          omega
        have ej : (Str.ofString (toString ((0 : Int) + (j : Int)))) = tx (dg j) := by
          rw [Int.zero_add]
          exact (tx_cps _).symm
        refine ⟨_, rfl, _, rfl, f, NmL ns, rfl, .inl (sql_of hf7), rfl, flat_nm ns, _, rfl, ite2 (fun _ => ?_) (fun _ => ⟨_, rfl, rfl, _, rfl, ite2 (fun _ => ?_) (fun e2 => ?_)⟩)⟩
        · refine ⟨_, rfl, 10, rfl, _, rfl, sz16 (by rw [tx_len]; omega), _, rfl, _, rfl, log, _, _, rfl, rfl, ?_, ?_⟩
          · rw [hs10, ej, tx_len, tx_len, List.length_take]
            exact sz16 (by omega)
          · rw [hs10, ej, tx_app]
            exact ⟨_, _, rfl, big.1, big.2.1, big.2.2, rfl⟩
        · refine ⟨_, rfl, 10, rfl, _, rfl, sz16 (by rw [tx_len]; omega), _, rfl, _, rfl, log, _, _, rfl, rfl, ?_, ?_⟩
          · rw [hs10, ej, tx_len, tx_len, List.length_take]
            exact sz16 (by omega)
          · rw [hs10, ej, tx_app]
            exact ⟨_, _, rfl, big.1, big.2.1, big.2.2, rfl⟩
        · exact ⟨w, _, rfl, hw2, hl2', fun _ => not_frame (by simpa using e2), rfl⟩
      · rintro σ H8 ⟨w, y, rfl, hw2, hl2', hfr, rfl⟩
        refine ⟨_, rfl, .inl ⟨rfl, _, sql_of hf7⟩, _, rfl, f, _, _, rfl, rfl, hf7, ?_, ns ++ [w], _, _, _, rfl, by rw [List.length_append, hl]; rfl, fun x hx => ?_, ?_, ?_, sr7.of_upd nfa.symm nfc⟩
        · unfold NmL
          rw [List.length_map]
          exact small1000 (by omega)
        · rcases List.mem_append.mp hx with z | z
          · exact hns x z
          · rw [List.mem_singleton.mp z]
            exact ⟨hw2, hl2', hfr (by decide)⟩
        · rw [upd_same]
          unfold NmL
          rw [List.map_append]
          rfl
        · intro b o eb nb
          rw [upd_ne (ne_of_none eb nf0)]
          exact kp7 _ _ eb nb
    · rintro σ H6 ⟨ns, x9, x10, x11, rfl, hl, hns, hf, kp, sr⟩
      refine ⟨_, rfl, a, c, 2, rfl, sr, by decide, by decide, fun t H7 _ _ kp7 sr7 => ⟨rfl, _, rfl, ite2 (fun _ => ?_) (fun _ => ?_)⟩⟩
      · obtain ⟨_, _, _, hs7, _⟩ := id sr7
        refine ⟨_, rfl, f, _, rfl, sql_of (kp7 _ _ hf nfa), fun p hp => k ns.reverse p _ ((kp.trans kp7).free hs7 hp) (by rw [List.length_reverse]; omega) (fun x hx => hns x (List.mem_reverse.mp hx)) ?_ ((kp.trans kp7).trans (Kp.same (same_upd hp))) (sr7.of_same (same_upd hp))⟩
        rw [upd_same]
        unfold NmL
        rw [List.map_reverse]
      · exact ⟨_, rfl, k ns f H7 nf0 (by omega) hns (kp7 _ _ hf nfa) (kp.trans kp7) sr7⟩
end
end DO

namespace DO
open PySem PySem.Spec PyProof.Rows L2
section
variable {X : Cx}
theorem op_powL : OpR X (binaryOp .Pow) (fun x y H Q => ∃ i j : Int, x = .int i ∧ y = .int j ∧ CPow i j ∧ ∀ r : Int, r = i ^ j.toNat → Q (.int r) H) := by
  intro pins s σ H x y v u Q I rx ry h
  obtain ⟨i, j, hx, hy, hj, k⟩ := h
  exact op_pow pins s σ H x y v u Q I rx ry ⟨i, j, hx, hy, hj, k _ rfl⟩
theorem op_mulWL : OpR X (binaryOp .Mult) (fun x y H Q => ∃ i j : Int, x = .int i ∧ y = .int j ∧ CMulW i j ∧ ∀ r : Int, r = i * j → Q (.int r) H) := by
  intro pins s σ H x y v u Q I rx ry h
  obtain ⟨i, j, hx, hy, hj, k⟩ := h
  exact op_mulW pins s σ H x y v u Q I rx ry ⟨i, j, hx, hy, hj, k _ rfl⟩
theorem call_min2L (hc : X.calm = true) : CallR X (.builtin "min") (fun xs H Q => ∃ i j : Int, xs = [.int i, .int j] ∧ ∀ r : Int, r = min i j → Q (.int r) H) := by
  intro pins s σ H xs us Q I r h
  obtain ⟨i, j, hx, k⟩ := h
  exact call_min2 hc pins s σ H xs us Q I r ⟨i, j, hx, k _ (by split <;> omega)⟩
theorem call_max2L (hc : X.calm = true) : CallR X (.builtin "max") (fun xs H Q => ∃ i j : Int, xs = [.int i, .int j] ∧ ∀ r : Int, r = max i j → Q (.int r) H) := by
  intro pins s σ H xs us Q I r h
  obtain ⟨i, j, hx, k⟩ := h
  exact call_max2 hc pins s σ H xs us Q I r ⟨i, j, hx, k _ (by split <;> omega)⟩
end
section
variable {P : Program} {w : World} {K : PySem.W.Frag} {mg : Str → Option Value} {base : Heap}
abbrev sNumber : Stmt := top 41
theorem scNumber : FnScope ["_law_source_here", "_law_shape", "_law_size", "_law_k"] ["_law_source_here"] (defScope sNumber) := ⟨rfl, rfl, rfl, by decide +kernel, rfl, by decide +kernel, by decide +kernel⟩
def spNumber : Sp := fun vs H Q _ => ∃ (a c : Addr), vs = [.ref a] ∧ Src H a c ∧ ∀ (n : Int) H', n.natAbs < 2 ^ 200 → Kp a H H' → Src H' a c → Q (.int n) H'
theorem p15 : (10 : Int) ^ (15 : Int).toNat = 1000000000000000 := by decide
theorem ok_number (D : Df K mg "_law_number" sNumber ["_law_source_here"]) (D7 : Df K mg "_law_take" sTake ["_law_source_here", "_law_many"]) (G : FnOk P w K mg base CX0 2 D7.f D7.fd ["_law_source_here", "_law_many"] spTake)
    (mr : mg "range" = none) : FnOk P w K mg base CX0 3 D.f D.fd ["_law_source_here"] spNumber := by
  refine D.fn.ok scNumber (fun vs H Q E h => ?_) (fun cdv A outer s H vs Q E hr h => ?_)
  · obtain ⟨a, c, rfl, _⟩ := h
    rfl
  · obtain ⟨a, c, rfl, sr, k⟩ := h
    refine ⟨_, (pss_cons (ps_set (i := 1) scNumber.nd rfl (.inl rfl) (pe_call G hr (by rfl) D7.mgf D7.fn.kp D7.bd .nil pass0 (pa_cons (pv 0) (pa_cons pe_int pa_nil))))
      (pss_cons (ps_if (pt_cmpR op_lt (pv 1) pe_int (nomark _))
      (pss_one (ps_ret (pe_op op_subL (pe_call G hr (by rfl) D7.mgf D7.fn.kp D7.bd .nil pass0 (pa_cons (pv 0) (pa_cons pe_int pa_nil))) pe_int)))
      pss_nil)
      (pss_cons (ps_set (i := 2) scNumber.nd rfl (.inl rfl) pe_int)
      (pss_cons (ps_for PassesOwn.never rfl (pi_range1 rfl mr (pa_cons (pe_ifExp (pt_cmpR op_eq (pv 1) pe_int (nomark _)) pe_int pe_int) pa_nil)) (pg_name (i := 3) scNumber.nd rfl (Or.inl rfl))
      (pss_one (ps_set (i := 2) scNumber.nd rfl (.inl rfl) (pe_op op_addL (pe_op op_mulWL (pv 2) (pe_op op_powL pe_int pe_int)) (pe_call G hr (by rfl) D7.mgf D7.fn.kp D7.bd .nil pass0 (pa_cons (pv 0) (pa_cons (pe_op op_powL pe_int pe_int) pa_nil)))))))
      (pss_one (ps_ret (pe_op op_mulWL (pv 2) (pe_op op_subL pe_int (pe_op op_mulL pe_int (pe_call G hr (by rfl) D7.mgf D7.fn.kp D7.bd .nil pass0 (pa_cons (pv 0) (pa_cons pe_int pa_nil)))))))))))), ?_⟩
    refine ⟨_, rfl, a, c, 8, rfl, sr, by decide, by decide, fun sh H1 _ _ kp1 sr1 => ⟨_, rfl, _, _, rfl, rfl, _, rfl, ite2 (fun _ => ?_) (fun _ => ?_)⟩⟩
    · exact ⟨_, rfl, a, c, 19, rfl, sr1, by decide, by decide, fun d H3 d0 d1 kp3 sr3 => ⟨_, _, rfl, rfl, fun r er => k r H3 (by omega) (kp1.trans kp3) sr3⟩⟩
    refine ⟨_, rfl, rfl, _, rfl, ite2 (fun _ => ⟨4, rfl, by decide, by decide, ?_⟩) (fun _ => ⟨1, rfl, by decide, by decide, ?_⟩)⟩
    all_goals
      refine for_range (lo := 0) (fun i σ H2 => ∃ (n : Int) (x : Option V), σ = [some (.ref a), some (.int sh), some (.int n), x] ∧ 0 ≤ n ∧ n < 1000000000000000 ^ i ∧ Kp a H H2 ∧ Src H2 a c) ⟨0, none, rfl, by decide, by decide, kp1, sr1⟩ ?_ ?_
      · rintro i σ H2 hi ⟨n, x, rfl, n0, n1, kp, sr⟩
        have hi4 : i < 4 := Nat.lt_of_lt_of_le hi (by decide)
        have nb : n.natAbs < 2 ^ 200 := by
          have h4 : i = 0 ∨ i = 1 ∨ i = 2 ∨ i = 3 := by omega
          rcases h4 with rfl | rfl | rfl | rfl <;> omega
        refine ⟨_, rfl, 10, 15, rfl, rfl, ⟨by decide, by decide, by decide⟩, fun b eb => ?_⟩
        rw [p15] at eb
        subst eb
        refine ⟨_, _, rfl, rfl, wide_mul nb (b := 200) (by decide) (by decide) (by decide) (by decide), fun r er => ⟨_, rfl, 10, 15, rfl, rfl, ⟨by decide, by decide, by decide⟩, fun b2 eb2 => ?_⟩⟩
        rw [p15] at eb2
        subst eb2
        refine ⟨a, c, 1000000000000000, rfl, sr, by decide, by decide, fun d H3 d0 d1 kp3 sr3 => ⟨_, _, rfl, rfl, fun r2 er2 => ⟨r2, _, rfl, by omega, ?_, kp.trans kp3, sr3⟩⟩⟩
        rw [Int.pow_succ]
        generalize (1000000000000000 : Int) ^ i = z at n1
        omega
      · rintro σ H2 ⟨n, x, rfl, n0, n1, kp, sr⟩
        have n1' : n < 1000000000000000000000000000000000000000000000000000000000000 := Int.lt_of_lt_of_le n1 (by decide)
        refine ⟨_, rfl, _, rfl, a, c, 2, rfl, sr, by decide, by decide, fun d H3 d0 d1 kp3 sr3 => ⟨2, d, rfl, rfl, .inl ⟨by decide, by decide⟩, fun r er => ⟨_, _, rfl, rfl, fun r2 er2 => ⟨_, _, rfl, rfl, wide_mul (a := 200) (b := 200) (by omega) (by omega) (by decide) (by decide) (by decide), fun r3 er3 => ?_⟩⟩⟩⟩
        have hz : r2 = 1 ∨ r2 = -1 := by omega
        refine k r3 H3 ?_ (kp.trans kp3) sr3
        rcases hz with z | z
        · subst z
          omega
        · subst z
          omega
end
end DO

namespace DO
open PySem PySem.Spec PyProof.Rows L2
/-! ### operators that an own class defines -/
/-- a method of the text -/
structure Mf (K : PySem.W.Frag) (C : Addr) (x qual : Str) (st : Stmt) (ps : List Str) where
  f : Addr
  fd : FuncData
  me : Meth K C x f
  fn : Fun K x qual st f fd
  bd : Binds K fd ps []
theorem fnIn_of {K : PySem.W.Frag} {x qual : Str} {st : Stmt} {f : Addr} {fd : FuncData} (F : Fun K x qual st f fd) : PySem.W.fnIn K f = true := by
  obtain ⟨oc, od, kV, doc, pm, an, cdv, ct, osl, e, lk, _⟩ := F.ex
  unfold PySem.W.fnIn
  rw [lk]
section
variable {X : Cx} {CX : CXT} {k : Nat} {C f : Addr} {fd : FuncData} {ps : List Str} {sp : Sp} {E : XK} {pins : List (Addr × Obj)} {σ : L2.St} {H : Hp} {s : Shared}
theorem inst_of {a dx : Addr} {fs : List (Str × V)} (I : L2.Inv X pins σ H s) (ha : H a = some (.ins C dx fs)) : ∃ ox od, PySem.W.InstAt s.heap a ox C (some od) := by
  obtain ⟨mA, J, _⟩ := ins_get I.hok ha
  obtain ⟨od, J, _⟩ := J.look
  exact ⟨_, od, J⟩
theorem run_in1 {Q : VK} {us : List Value} {vs : List V} (F : FnOk X.prog X.w X.K X.mg X.base CX k f fd ps sp) (hr : Room k X.A.in1) (hb : Binds X.K fd ps []) (hx : Passes CX X E)
    (I : L2.Inv X pins σ H s) (r : Vals vs us) (h : sp vs H Q E) : wpAny (model X.prog X.w) X.A.in1 (call (.ref f) us) (EP X pins σ Q) X.xe s := by
  have hl := F.len _ _ _ _ h
  rw [r.length] at hl
  refine wpAny_call (codeAny_mono (F.run X.A.in1 X.stack s H ⟨us, []⟩ us vs Q E hr I.env0.in1 (by
    have z := hb s us I.kIn (by rw [List.append_nil]; exact hl)
    rw [List.append_nil] at z
    exact z) r h) fun r s' hq => ?_)
  cases r with
  | error e => exact hx pins σ H s e s' I hq
  | ok fl =>
    cases fl with
    | ret u => exact I.after hq
    | next => exact False.elim hq
    | brk => exact False.elim hq
    | cont => exact False.elim hq
/-- x in o -/
def rInO (C : Addr) (sp : Sp) (E : XK) : R2 := fun x y H Q => ∃ a dx fs, y = .ref a ∧ H a = some (.ins C dx fs) ∧ sp [y, x] H (fun v H' => ∃ b : Bool, v = .bl b ∧ Q (.bl b) H') E
theorem op_inO (M : Meth X.K C "__contains__" f) (F : FnOk X.prog X.w X.K X.mg X.base CX k f fd ps sp) (hr : Room k X.A) (hb : Binds X.K fd ps []) (hx : Passes CX X E) : OpR X (compareOp .In) (rInO C sp E) := by
  intro pins s σ H x y v u Q I rx ry h
  obtain ⟨a, dx, fs, rfl, ha, q⟩ := h
  obtain rfl : u = Value.ref a := ry
  obtain ⟨ox, od, J⟩ := inst_of I ha
  obtain ⟨m, hF⟩ := I.fr
  refine PySem.W.in_K hF I.ok.mod.kin J M.at_ M.fn (wpAny_mono (run_fn (us := [.ref a, v]) (vs := [.ref a, x]) F hr hb .nil hx I (.cons rfl (.cons rx .nil)) q) (fun r s' z => ?_) fun _ _ x => x)
  obtain ⟨v', H', I', rz, b, rfl, q'⟩ := z
  cases rz
  exact wpAny_truthy_bool ⟨.bl b, H', I', rfl, q'⟩
/-- o[i] -/
def rSubO (C : Addr) (sp : Sp) (E : XK) : R2 := fun x y H Q => ∃ a dx fs, x = .ref a ∧ H a = some (.ins C dx fs) ∧ sp [x, y] H Q E
theorem pe_subO {a b : Expr} {ta tb : TE} {pos : Pos} {qual : Str} {st : Stmt} (M : Meth X.K C "__getitem__" f) (Fn : Fun X.K "__getitem__" qual st f fd) (F : FnOk X.prog X.w X.K X.mg X.base CX k f fd ps sp) (hr : Room (k + 1) X.A) (hb : Binds X.K fd ps []) (hx : Passes CX X E)
    (ha : PE X a ta) (hb' : PE X b tb) (hs : ∀ o i, subscripted b true o i = runValue (.builtin "lifetime.subscript" ⟨[o, i], []⟩) := by intro _ _; rfl) : PE X (.Subscript a b pos) (tOp (rSubO C sp E) ta tb) := by
  refine ⟨fun pins s σ H Q I h => ?_⟩
  refine Subscript_ (binT ha hb' I h fun v u s2 x y H2 I2 rx ry q => ?_)
  obtain ⟨p, dx, fs, rfl, hp, q⟩ := q
  obtain rfl : v = Value.ref p := rx
  obtain ⟨ox, od, J⟩ := inst_of I2 hp
  obtain ⟨m, hF⟩ := I2.fr
  exact PySem.W.sub_K hF I2.ok.mod.kin J M.at_ (fnIn_of Fn) M.fn (run_in1 (us := [.ref p, u]) (vs := [.ref p, y]) F hr.in1 hb hx I2 (.cons rfl (.cons ry .nil)) q) (hs _ _)
/-- o + o' and its like, both of the class -/
def rBinO (C : Addr) (sp : Sp) (E : XK) : R2 := fun x y H Q => ∃ a dx fs b dy gs, x = .ref a ∧ y = .ref b ∧ H a = some (.ins C dx fs) ∧ H b = some (.ins C dy gs) ∧ sp [x, y] H Q E
theorem op_binO {op : Operator} {nm : Str} (hn : PySem.dunder op.info.2 = nm) (M : Meth X.K C nm f) (hc : PySem.W.selfFirst X.K C = true) (F : FnOk X.prog X.w X.K X.mg X.base CX k f fd ps sp) (hr : Room k X.A) (hb : Binds X.K fd ps []) (hx : Passes CX X E) : OpR X (binaryOp op) (rBinO C sp E) := by
  intro pins s σ H x y v u Q I rx ry h
  obtain ⟨a, dx, fs, b, dy, gs, rfl, rfl, ha, hb', q⟩ := h
  obtain rfl : v = Value.ref a := rx
  obtain rfl : u = Value.ref b := ry
  obtain ⟨ox, od, J⟩ := inst_of I ha
  obtain ⟨oy, od', J'⟩ := inst_of I hb'
  obtain ⟨m, hF⟩ := I.fr
  subst hn
  refine PySem.W.binop_K hF I.ok.mod.kin J J'.type hc M.at_ M.fn (wpAny_mono (run_fn (us := [.ref a, .ref b]) (vs := [.ref a, .ref b]) F hr hb .nil hx I (.cons rfl (.cons rfl .nil)) q) (fun r s' z => ?_) fun _ _ x => x)
  obtain ⟨v', H', I', rz, q'⟩ := z
  exact SlX.cmpback rz ⟨v', H', I', rz, q'⟩
/-- o * n -/
def rBinI (C : Addr) (sp : Sp) (E : XK) : R2 := fun x y H Q => ∃ a dx fs, ∃ n : Int, x = .ref a ∧ y = .int n ∧ H a = some (.ins C dx fs) ∧ sp [x, y] H Q E
theorem op_binI {op : Operator} {nm nr : Str} {fo ro rc : Option Value} (hn : PySem.dunder op.info.2 = nm) (hn' : dunderR op.info.2 = nr) (M : Meth X.K C nm f) (hc : PySem.W.selfFirst X.K C = true)
    (hrr : PySem.W.findIn X.K (.ref C) nr = some rc) (hp : rc = none ∨ ∃ g : Addr, rc = some (.ref g)) (h1 : PySem.W.findIn X.K (.type "int") nm = some fo) (h2 : PySem.W.findIn X.K (.type "int") nr = some ro) (hsub : PySem.W.subIn X.K (.type "int") (.ref C) = some false)
    (F : FnOk X.prog X.w X.K X.mg X.base CX k f fd ps sp) (hr : Room k X.A) (hb : Binds X.K fd ps []) (hx : Passes CX X E) : OpR X (binaryOp op) (rBinI C sp E) := by
  intro pins s σ H x y v u Q I rx ry h
  obtain ⟨a, dx, fs, n, rfl, rfl, ha, q⟩ := h
  obtain rfl : v = Value.ref a := rx
  obtain ⟨t, rfl⟩ := ry
  obtain ⟨ox, od, J⟩ := inst_of I ha
  obtain ⟨m, hF⟩ := I.fr
  subst hn
  subst hn'
  refine PySem.W.ksp_binT hF I.ok.mod.kin J (T := "int") rfl hc M.at_ M.fn hrr hp h1 h2 hsub (wpAny_mono (run_fn (us := [.ref a, .int n t]) (vs := [.ref a, .int n]) F hr hb .nil hx I (.cons rfl (.cons ⟨t, rfl⟩ .nil)) q) (fun r s' z => ?_) fun _ _ x => x)
  obtain ⟨v', H', I', rz, q'⟩ := z
  exact SlX.cmpback rz ⟨v', H', I', rz, q'⟩
/-- o == y: y an instance of the class, or of a built-in type that is told -/
inductive TyB (H : Hp) : V → String → Prop where
  | non : TyB H .non "NoneType"
  | int (i : Int) : TyB H (.int i) "int"
  | str (x : Str) : TyB H (.str x) "str"
  | lst {a : Addr} {xs : List V} (e : H a = some (.lst xs)) : TyB H (.ref a) "list"
  | dK {a : Addr} {kvs : List (Key × V)} (e : H a = some (.dK kvs)) : TyB H (.ref a) "dict"
theorem tyB_looks {x : V} {u : Value} {T : String} (I : L2.Inv X pins σ H s) (rx : RelV x u) (h : TyB H x T) : s.TypeIs u T := by
  cases h with
  | non => cases rx; exact rfl
  | int i => obtain ⟨t, rfl⟩ := rx; exact rfl
  | str x => obtain ⟨t, rfl⟩ := rx; exact rfl
  | lst e =>
    cases rx
    obtain ⟨_, its, n, _, e'⟩ := I.hok _ _ e
    exact ⟨_, e', rfl⟩
  | dK e =>
    cases rx
    obtain ⟨_, _, vs, _, o, es, ep, e', c, _⟩ := I.hok _ _ e
    exact ⟨o, e', c.1⟩
end
end DO

namespace DO
open PySem PySem.Spec PyProof.Rows L2
/-! ### a measure in a form: its name, its multiple, its ends -/
structure Tm where
  nm : Str
  k : Int
  lo : Int
  hi : Int
  deriving DecidableEq
def getT (M : List Tm) (w : Str) : Option Tm := M.find? fun x => decide (x.nm = w)
def putT (M : List Tm) (x : Tm) : List Tm := if (M.any fun y => decide (y.nm = x.nm)) = true then M.map (fun y => if y.nm = x.nm then x else y) else M ++ [x]
def nms (M : List Tm) : List Str := M.map (·.nm)
theorem getT_nm {M : List Tm} {w : Str} {x : Tm} (h : getT M w = some x) : x.nm = w := by
  unfold getT at h
  have h2 := List.find?_some h
  exact of_decide_eq_true h2
theorem getT_in {M : List Tm} {w : Str} {x : Tm} (h : getT M w = some x) : x ∈ M := List.mem_of_find?_eq_some h
theorem getT_none {M : List Tm} {w : Str} : getT M w = none ↔ w ∉ nms M := by
  unfold getT nms
  rw [List.find?_eq_none]
  constructor
  · intro h hm
    obtain ⟨x, hx, e⟩ := List.mem_map.mp hm
    exact h x hx (decide_eq_true e)
  · intro h x hx e
    exact h (List.mem_map.mpr ⟨x, hx, of_decide_eq_true e⟩)
theorem getT_mem : ∀ {M : List Tm} {x : Tm}, (nms M).Nodup → x ∈ M → getT M x.nm = some x
  | [], x, _, h => by simp at h
  | y :: r, x, hn, h => by
    obtain ⟨h1, h2⟩ := List.nodup_cons.mp (show (y.nm :: nms r).Nodup from hn)
    unfold getT
    rw [List.find?_cons]
    rcases List.mem_cons.mp h with z | z
    · subst z
      simp
    · have e : ¬ y.nm = x.nm := fun q => h1 (q ▸ List.mem_map.mpr ⟨x, z, rfl⟩)
      rw [decide_eq_false e]
      exact getT_mem h2 z
theorem anyT {M : List Tm} {w : Str} : (M.any fun y => decide (y.nm = w)) = true ↔ w ∈ nms M := by
  rw [List.any_eq_true]
  unfold nms
  rw [List.mem_map]
  exact ⟨fun ⟨p, h, e⟩ => ⟨p, h, of_decide_eq_true e⟩, fun ⟨p, h, e⟩ => ⟨p, h, decide_eq_true e⟩⟩
theorem putT_nms {M : List Tm} {x : Tm} : nms (putT M x) = if x.nm ∈ nms M then nms M else nms M ++ [x.nm] := by
  unfold putT
  by_cases h : x.nm ∈ nms M
  · rw [if_pos (anyT.mpr h), if_pos h]
    unfold nms
    rw [List.map_map]
    apply List.map_congr_left
    intro p _
    show (if p.nm = x.nm then x else p).nm = p.nm
    split
    · exact (by assumption : p.nm = x.nm).symm
    · rfl
  · rw [if_neg (fun z => h (anyT.mp z)), if_neg h]
    unfold nms
    rw [List.map_append]
    rfl
theorem nd_snocS {l : List Str} {x : Str} (h : l.Nodup) (hx : x ∉ l) : (l ++ [x]).Nodup := by
  rw [List.nodup_append]
  refine ⟨h, by simp, fun a ha b hb => ?_⟩
  rw [List.mem_singleton.mp hb]
  intro e
  exact hx (e ▸ ha)
theorem putT_nd {M : List Tm} {x : Tm} (h : (nms M).Nodup) : (nms (putT M x)).Nodup := by
  rw [putT_nms]
  split
  · exact h
  · exact nd_snocS h (by assumption)
theorem putT_len {M : List Tm} {x : Tm} : (putT M x).length ≤ M.length + 1 := by
  unfold putT
  split
  · rw [List.length_map]
    omega
  · rw [List.length_append]
    exact Nat.le_refl _
theorem putT_mem {M : List Tm} {x y : Tm} (h : y ∈ putT M x) : y ∈ M ∨ y = x := by
  unfold putT at h
  split at h
  · obtain ⟨q, hq, e⟩ := List.mem_map.mp h
    by_cases z : q.nm = x.nm
    · rw [if_pos z] at e
      exact .inr e.symm
    · rw [if_neg z] at e
      exact .inl (e ▸ hq)
  · rcases List.mem_append.mp h with z | z
    · exact .inl z
    · exact .inr (List.mem_singleton.mp z)
theorem findT_map (x : Tm) (w : Str) : ∀ M : List Tm, (M.map fun y => if y.nm = x.nm then x else y).find? (fun y => decide (y.nm = w)) = if w = x.nm then (if x.nm ∈ nms M then some x else none) else M.find? (fun y => decide (y.nm = w))
  | [] => by simp [nms]
  | y :: r => by
    have ih := findT_map x w r
    rw [List.map_cons, List.find?_cons]
    by_cases e : y.nm = x.nm
    · rw [if_pos e]
      by_cases h : w = x.nm
      · rw [if_pos h, decide_eq_true h.symm, if_pos (by show x.nm ∈ y.nm :: nms r; rw [e]; exact List.mem_cons_self)]
      · rw [if_neg h, decide_eq_false (fun z => h z.symm), ih, if_neg h, List.find?_cons, decide_eq_false (fun z => h (z.symm.trans e))]
    · rw [if_neg e]
      by_cases h : y.nm = w
      · have h2 : ¬ w = x.nm := fun z => e (h.trans z)
        rw [decide_eq_true h, if_neg h2, List.find?_cons, decide_eq_true h]
      · rw [decide_eq_false h, ih, List.find?_cons, decide_eq_false h]
        have : (x.nm ∈ nms (y :: r)) = (x.nm ∈ nms r) := by
          show (x.nm ∈ y.nm :: nms r) = _
          rw [List.mem_cons, eq_iff_iff]
          exact ⟨fun z => z.elim (fun q => absurd q.symm e) id, .inr⟩
        simp only [this]
theorem getT_put (M : List Tm) (x : Tm) (w : Str) : getT (putT M x) w = if w = x.nm then some x else getT M w := by
  unfold putT
  by_cases h : (M.any fun y => decide (y.nm = x.nm)) = true
  · rw [if_pos h]
    unfold getT
    rw [findT_map, if_pos (anyT.mp h)]
  · rw [if_neg h]
    unfold getT
    rw [List.find?_append]
    by_cases e : w = x.nm
    · rw [if_pos e]
      have : M.find? (fun y => decide (y.nm = w)) = none := by
        have h2 : w ∉ nms M := fun z => h (anyT.mpr (e ▸ z))
        exact getT_none.mpr h2
      rw [this]
      simp [e]
    · rw [if_neg e]
      have : (List.find? (fun y => decide (y.nm = w)) [x]) = none := by simp; exact fun z => e z.symm
      rw [this]
      simp
/-! ### how they lie in the heap -/
/-- the pairs of a dict: a name, a tuple of a multiple and ends -/
inductive DAll (H : Hp) : List (Key × V) → List Tm → Prop where
  | nil : DAll H [] []
  | cons {kvs : List (Key × V)} {M : List Tm} (x : Tm) (t : Addr) (h : H t = some (.tup [.int x.k, .int x.lo, .int x.hi])) (r : DAll H kvs M) : DAll H ((Sum.inr x.nm, V.ref t) :: kvs) (x :: M)
/-- the items of a tuple: tuples of a name, a multiple and ends -/
inductive TAll (H : Hp) : List V → List Tm → Prop where
  | nil : TAll H [] []
  | cons {vs : List V} {M : List Tm} (x : Tm) (t : Addr) (h : H t = some (.tup [.str x.nm, .int x.k, .int x.lo, .int x.hi])) (r : TAll H vs M) : TAll H (.ref t :: vs) (x :: M)
theorem DAll.mono {H H' : Hp} {kvs : List (Key × V)} {M : List Tm} (h : DAll H kvs M) (k : ∀ t xs, H t = some (.tup xs) → H' t = some (.tup xs)) : DAll H' kvs M := by
  induction h with
  | nil => exact .nil
  | cons x t h r ih => exact .cons x t (k _ _ h) ih
theorem TAll.mono {H H' : Hp} {vs : List V} {M : List Tm} (h : TAll H vs M) (k : ∀ t xs, H t = some (.tup xs) → H' t = some (.tup xs)) : TAll H' vs M := by
  induction h with
  | nil => exact .nil
  | cons x t h r ih => exact .cons x t (k _ _ h) ih
theorem DAll.len {H : Hp} {kvs : List (Key × V)} {M : List Tm} (h : DAll H kvs M) : kvs.length = M.length := by
  induction h with
  | nil => rfl
  | cons x t h r ih => rw [List.length_cons, List.length_cons, ih]
theorem TAll.len {H : Hp} {vs : List V} {M : List Tm} (h : TAll H vs M) : vs.length = M.length := by
  induction h with
  | nil => rfl
  | cons x t h r ih => rw [List.length_cons, List.length_cons, ih]
theorem TAll.at_ {H : Hp} {vs : List V} {M : List Tm} (h : TAll H vs M) : ∀ {i : Nat} {y : V}, vs[i]? = some y → ∃ x t, M[i]? = some x ∧ y = .ref t ∧ H t = some (.tup [.str x.nm, .int x.k, .int x.lo, .int x.hi]) := by
  induction h with
  | nil => intro i y e; simp at e
  | cons x t h r ih =>
    intro i y e
    cases i with
    | zero => exact ⟨x, t, rfl, (Option.some.inj e).symm, h⟩
    | succ j => exact ih e
theorem TAll.app {H : Hp} {vs us : List V} {M N : List Tm} (h : TAll H vs M) (g : TAll H us N) : TAll H (vs ++ us) (M ++ N) := by
  induction h with
  | nil => exact g
  | cons x t h r ih => exact .cons x t h ih
theorem DAll.get {H : Hp} {kvs : List (Key × V)} {M : List Tm} (h : DAll H kvs M) (w : Str) : (getT M w = none ∧ valV kvs (Sum.inr w : Key) = none) ∨ ∃ x t, getT M w = some x ∧ valV kvs (Sum.inr w : Key) = some (.ref t) ∧ H t = some (.tup [.int x.k, .int x.lo, .int x.hi]) := by
  induction h with
  | nil => exact .inl ⟨rfl, rfl⟩
  | cons x t h r ih =>
    by_cases e : x.nm = w
    · refine .inr ⟨x, t, ?_, valV_pos (congrArg Sum.inr e), h⟩
      unfold getT
      rw [List.find?_cons, decide_eq_true e]
    · have e2 : ¬ ((Sum.inr x.nm : Key) = Sum.inr w) := fun z => e (Sum.inr.inj z)
      unfold getT at ih ⊢
      rw [List.find?_cons, decide_eq_false e, valV_neg e2]
      exact ih
theorem DAll.any {H : Hp} {kvs : List (Key × V)} {M : List Tm} (h : DAll H kvs M) (w : Str) : (kvs.any fun kv => decide (kv.1 = (Sum.inr w : Key))) = M.any fun y => decide (y.nm = w) := by
  induction h with
  | nil => rfl
  | cons x t h r ih =>
    rw [List.any_cons, List.any_cons, ih]
    congr 1
    by_cases e : x.nm = w
    · rw [decide_eq_true e, decide_eq_true (congrArg Sum.inr e)]
    · rw [decide_eq_false e, decide_eq_false (fun z => e (Sum.inr.inj z))]
theorem DAll.app {H : Hp} {kvs lvs : List (Key × V)} {M N : List Tm} (h : DAll H kvs M) (g : DAll H lvs N) : DAll H (kvs ++ lvs) (M ++ N) := by
  induction h with
  | nil => exact g
  | cons x t h r ih => exact .cons x t h ih
theorem DAll.over {H : Hp} {kvs : List (Key × V)} {M : List Tm} (h : DAll H kvs M) {x : Tm} {t : Addr} (ht : H t = some (.tup [.int x.k, .int x.lo, .int x.hi])) :
    DAll H (kvs.map fun kv => if kv.1 = (Sum.inr x.nm : Key) then (kv.1, V.ref t) else kv) (M.map fun y => if y.nm = x.nm then x else y) := by
  induction h with
  | nil => exact .nil
  | cons y q hq r ih =>
    rw [List.map_cons, List.map_cons]
    by_cases e : y.nm = x.nm
    · have e2 : ((Sum.inr y.nm : Key) = Sum.inr x.nm) := congrArg Sum.inr e
      rw [if_pos e]
      show DAll H ((if (Sum.inr y.nm : Key) = Sum.inr x.nm then ((Sum.inr y.nm : Key), V.ref t) else _) :: _) _
      rw [if_pos e2, e]
      exact .cons x t ht ih
    · have e2 : ¬ ((Sum.inr y.nm : Key) = Sum.inr x.nm) := fun z => e (Sum.inr.inj z)
      rw [if_neg e]
      show DAll H ((if (Sum.inr y.nm : Key) = Sum.inr x.nm then ((Sum.inr y.nm : Key), V.ref t) else _) :: _) _
      rw [if_neg e2]
      exact .cons y q hq ih
theorem DAll.put {H : Hp} {kvs : List (Key × V)} {M : List Tm} (h : DAll H kvs M) {x : Tm} {t : Addr} (ht : H t = some (.tup [.int x.k, .int x.lo, .int x.hi])) : DAll H (putK kvs (Sum.inr x.nm) (.ref t)) (putT M x) := by
  unfold putK putT
  rw [h.any]
  split
  · exact h.over ht
  · exact h.app (.cons x t ht .nil)
theorem DAll.at_ {H : Hp} {kvs : List (Key × V)} {M : List Tm} (h : DAll H kvs M) : ∀ {i : Nat} {kk : Key} {vv : V}, kvs[i]? = some (kk, vv) → ∃ x t, M[i]? = some x ∧ kk = Sum.inr x.nm ∧ vv = .ref t ∧ H t = some (.tup [.int x.k, .int x.lo, .int x.hi]) := by
  induction h with
  | nil => intro i kk vv e; simp at e
  | cons x t h r ih =>
    intro i kk vv e
    cases i with
    | zero =>
      have e2 := Option.some.inj e
      exact ⟨x, t, rfl, (congrArg Prod.fst e2).symm, (congrArg Prod.snd e2).symm, h⟩
    | succ j => exact ih e
/-- a law's dict at d -/
structure DictAt (H : Hp) (d : Addr) (M : List Tm) : Prop where
  dk : ∃ kvs, H d = some (.dK kvs) ∧ DAll H kvs M
  nd : (nms M).Nodup
  sz : M.length ≤ 100
/-- a law's model at m: a number, a dict, a kind -/
def ModelAt (H : Hp) (m : Addr) (n : Int) (M : List Tm) (kind : Option Str) : Prop := ∃ d xs, H m = some (.tup xs) ∧ atI xs 0 = some (.int n) ∧ atI xs 1 = some (.ref d) ∧ (∀ s, kind = some s → atI xs 2 = some (.str s)) ∧ DictAt H d M
/-- what stands is kept, but what stands at a, a list -/
theorem tup_kp {a : Addr} {H H' : Hp} {xs : List V} (k : Kp a H H') (ha : H a = some (.lst xs)) : ∀ t ys, H t = some (.tup ys) → H' t = some (.tup ys) := fun t ys h => k _ _ h (ne_of h ha fun z => nomatch z)
theorem DictAt.keep {H H' : Hp} {d : Addr} {M : List Tm} (h : DictAt H d M) (k : Same H H') : DictAt H' d M := by
  obtain ⟨⟨kvs, e, r⟩, nd, sz⟩ := h
  exact ⟨⟨kvs, k _ _ e, r.mono fun t xs z => k _ _ z⟩, nd, sz⟩
theorem DictAt.kp {a : Addr} {H H' : Hp} {d : Addr} {M : List Tm} {xs : List V} (h : DictAt H d M) (k : Kp a H H') (ha : H a = some (.lst xs)) : DictAt H' d M := by
  obtain ⟨⟨kvs, e, r⟩, nd, sz⟩ := h
  exact ⟨⟨kvs, k _ _ e (ne_of e ha fun z => nomatch z), r.mono (tup_kp k ha)⟩, nd, sz⟩
theorem ModelAt.keep {H H' : Hp} {m : Addr} {n : Int} {M : List Tm} {kd : Option Str} (h : ModelAt H m n M kd) (k : Same H H') : ModelAt H' m n M kd := by
  obtain ⟨d, xs, e, a0, a1, a2, r⟩ := h
  exact ⟨d, xs, k _ _ e, a0, a1, a2, r.keep k⟩
theorem ModelAt.kp {a : Addr} {H H' : Hp} {m : Addr} {n : Int} {M : List Tm} {kd : Option Str} {xs : List V} (h : ModelAt H m n M kd) (k : Kp a H H') (ha : H a = some (.lst xs)) : ModelAt H' m n M kd := by
  obtain ⟨d, xs, e, a0, a1, a2, r⟩ := h
  exact ⟨d, xs, tup_kp k ha _ _ e, a0, a1, a2, r.kp k ha⟩
theorem ModelAt.any {H : Hp} {m : Addr} {n : Int} {M : List Tm} {kd : Option Str} (h : ModelAt H m n M kd) : ModelAt H m n M none := by
  obtain ⟨d, xs, e, a0, a1, a2, r⟩ := h
  exact ⟨d, xs, e, a0, a1, fun s z => (by cases z), r⟩
end DO

namespace DO
open PySem PySem.Spec PyProof.Rows L2
section
variable {P : Program} {w : World} {K : PySem.W.Frag} {mg : Str → Option Value} {base : Heap}
/-! ### sorted of texts, any number of them -/
def leT (a b : Str) : Bool := decide (a.cps.toList ≤ b.cps.toList)
def rSortedT (K : PySem.W.Frag) : List V → Hp → VK → Prop := fun vs H Q => ∃ (a : Addr) (xs : List Str), vs = [V.ref a] ∧ SqL K H a (xs.map V.str) ∧ ∀ p : Addr, H p = none → Q (.ref p) (upd H p (.lst ((xs.mergeSort leT).map V.str)))
theorem each_of : ∀ {xs : List Str} {us : List Value}, Vals (xs.map V.str) us → PySem.W.EachIs (fun v x => ∃ t, v = Value.str x t) us xs
  | [], _, .nil => .nil
  | x :: xs, _, .cons r rs => .cons r (each_of rs)
theorem of_each : ∀ {xs : List Str} {us : List Value}, PySem.W.EachIs (fun v x => ∃ t, v = Value.str x t) us xs → Vals (xs.map V.str) us
  | _, _, .nil => .nil
  | _, _, .cons r rs => .cons r (of_each rs)
theorem cr_sortedT {X : Cx} (hu : X.A.units + 2 < cLine) : CallR X (.builtin "sorted") (rSortedT X.K) := by
  intro pins s σ H vs us Q I r h
  obtain ⟨a, xs, rfl, hs, q⟩ := h
  obtain ⟨its, rv, hl, hz⟩ := I.list hs
  rw [Vals.ref1 r]
  have e := each_of rv
  have hlen : xs.length = its.length := by
    have := rv.length
    rw [List.length_map] at this
    exact this
  have hx : xs.length ≤ sizeLine := by rw [List.length_map] at hz; exact hz
  refine PySem.W.sorted_data (enc := fun x : Str => PyData.str x) (bs := xs) hl.isList e (e.mono fun v x ⟨t, ev⟩ => ⟨[], by rw [ev]; exact .str x t⟩) (PySem.W.AllAlike.of fun b b' => rfl) (PySem.W.Sortable.others fun b => ⟨(fun z => nomatch z), (fun xs z => nomatch z)⟩) hx (fun b _ => ?_) fun out h1 h2 => ?_
  · exact hu
  · have ed : PySem.W.dataLe false (fun x : Str => PyData.str x) = leT := by
      rw [PySem.W.dataLe_str (fun x : Str => x)]
      rfl
    rw [ed] at h2
    obtain ⟨ep, he'⟩ := PyProof.Rows.sortedAll_at s.heap its out.toArray
    have hl2 : ((xs.mergeSort leT).map V.str).length ≤ sizeLine := by
      rw [List.length_map, List.length_mergeSort]
      exact hx
    exact ⟨.ref _, upd H (s.heap.objs.size + 1) (.lst ((xs.mergeSort leT).map V.str)), I.laid (t' := s.toks) (fun _ _ => PyProof.Rows.sortedAll_old) (Nat.le_succ _) ⟨hl2, out, ep, of_each h2, he'⟩, rfl, q _ (I.hok.fresh (Nat.le_succ _))⟩

theorem leT_trans (a b c : Str) (h : leT a b = true) (g : leT b c = true) : leT a c = true := by
  unfold leT at *
  exact decide_eq_true (List.le_trans (of_decide_eq_true h) (of_decide_eq_true g))
theorem leT_total (a b : Str) : (leT a b || leT b a) = true := by
  unfold leT
  rcases List.le_total a.cps.toList b.cps.toList with h | h
  · rw [decide_eq_true h]
    rfl
  · rw [decide_eq_true h, Bool.or_true]
theorem leT_anti {a b : Str} (h : leT a b = true) (g : leT b a = true) : a = b := by
  unfold leT at *
  have e := List.le_antisymm (of_decide_eq_true h) (of_decide_eq_true g)
  cases a
  cases b
  exact congrArg Str.mk (Array.toList_inj.mp e)
def sortS (l : List Str) : List Str := l.mergeSort leT
theorem sortS_perm (l : List Str) : (sortS l).Perm l := List.mergeSort_perm _ _
theorem sortS_srt (l : List Str) : (sortS l).Pairwise (fun a b => leT a b = true) := List.pairwise_mergeSort leT_trans leT_total l
/-- rising strictly -/
def Up (l : List Str) : Prop := l.Pairwise fun a b => leT a b = true ∧ a ≠ b
theorem Up.nd {l : List Str} (h : Up l) : l.Nodup := h.imp fun z => z.2
theorem sortS_up {l : List Str} (h : l.Nodup) : Up (sortS l) := List.Pairwise.imp₂ (fun a b h1 h2 => ⟨h1, h2⟩) (sortS_srt l) ((sortS_perm l).nodup_iff.mpr h)
theorem up_ext : ∀ {a b : List Str}, Up a → Up b → (∀ x, x ∈ a ↔ x ∈ b) → a = b
  | [], [], _, _, _ => rfl
  | [], y :: b, _, _, h => absurd ((h y).mpr List.mem_cons_self) (by simp)
  | x :: a, [], _, _, h => absurd ((h x).mp List.mem_cons_self) (by simp)
  | x :: a, y :: b, ha, hb, h => by
    obtain ⟨ha1, ha2⟩ := List.pairwise_cons.mp ha
    obtain ⟨hb1, hb2⟩ := List.pairwise_cons.mp hb
    have e : x = y := by
      rcases List.mem_cons.mp ((h x).mp List.mem_cons_self) with z | z
      · exact z
      rcases List.mem_cons.mp ((h y).mpr List.mem_cons_self) with w | w
      · exact w.symm
      exact leT_anti (ha1 _ w).1 (hb1 _ z).1
    subst e
    rw [up_ext ha2 hb2 fun z => ⟨fun q => ?_, fun q => ?_⟩]
    · rcases List.mem_cons.mp ((h z).mp (List.mem_cons_of_mem _ q)) with w | w
      · exact absurd w.symm (ha1 _ q).2
      · exact w
    · rcases List.mem_cons.mp ((h z).mpr (List.mem_cons_of_mem _ q)) with w | w
      · exact absurd w.symm (hb1 _ q).2
      · exact w
/-! ### terms in the order of their names -/
def srt (M : List Tm) : List Tm := (sortS (nms M)).filterMap (getT M)
theorem fm_nms (M : List Tm) : ∀ l : List Str, (∀ w ∈ l, w ∈ nms M) → nms (l.filterMap (getT M)) = l
  | [], _ => rfl
  | w :: r, h => by
    have h1 := h w List.mem_cons_self
    cases e : getT M w with
    | none => exact absurd h1 (getT_none.mp e)
    | some x =>
      rw [List.filterMap_cons, e]
      show x.nm :: nms _ = _
      rw [fm_nms M r fun z hz => h z (List.mem_cons_of_mem _ hz), getT_nm e]
theorem srt_nms (M : List Tm) : nms (srt M) = sortS (nms M) := fm_nms M _ fun w hw => (sortS_perm _).mem_iff.mp hw
theorem srt_up {M : List Tm} (h : (nms M).Nodup) : Up (nms (srt M)) := by
  rw [srt_nms]
  exact sortS_up h
theorem mem_srt {M : List Tm} {x : Tm} (hn : (nms M).Nodup) : x ∈ srt M ↔ x ∈ M := by
  unfold srt
  rw [List.mem_filterMap]
  constructor
  · rintro ⟨w, _, e⟩
    exact getT_in e
  · intro h
    exact ⟨x.nm, (sortS_perm _).mem_iff.mpr (List.mem_map.mpr ⟨x, h, rfl⟩), getT_mem hn h⟩
theorem getT_ext {A B : List Tm} (hA : (nms A).Nodup) (hB : (nms B).Nodup) (h : ∀ x, x ∈ A ↔ x ∈ B) (w : Str) : getT A w = getT B w := by
  cases e : getT A w with
  | none =>
    cases f : getT B w with
    | none => rfl
    | some y =>
      have := getT_mem hA ((h y).mpr (getT_in f))
      rw [getT_nm f, e] at this
      cases this
  | some x =>
    have := getT_mem hB ((h x).mp (getT_in e))
    rw [getT_nm e] at this
    exact this.symm
theorem get_srt {M : List Tm} (hn : (nms M).Nodup) (w : Str) : getT (srt M) w = getT M w := getT_ext (srt_up hn).nd hn (fun x => mem_srt hn) w
theorem tm_ext : ∀ {A B : List Tm}, nms A = nms B → (nms A).Nodup → (∀ w, getT A w = getT B w) → A = B := by
  intro A B e hn h
  have hB : (nms B).Nodup := e ▸ hn
  have key : ∀ (A B : List Tm), nms A = nms B → (∀ x ∈ A, ∀ y ∈ B, x.nm = y.nm → x = y) → A = B := by
    intro A
    induction A with
    | nil =>
      intro B e _
      cases B with
      | nil => rfl
      | cons y r => exact absurd e (by simp [nms])
    | cons x r ih =>
      intro B e hxy
      cases B with
      | nil => exact absurd e (by simp [nms])
      | cons y s =>
        have e1 : x.nm = y.nm ∧ nms r = nms s := by simpa [nms] using e
        rw [hxy x List.mem_cons_self y List.mem_cons_self e1.1, ih s e1.2 fun a ha b hb => hxy a (List.mem_cons_of_mem _ ha) b (List.mem_cons_of_mem _ hb)]
  refine key A B e fun x hx y hy exy => ?_
  have h1 := getT_mem hn hx
  have h2 := getT_mem hB hy
  rw [h, exy, h2] at h1
  exact (Option.some.inj h1).symm
/-- two lists of terms, rising: equal where they give the same to each name -/
theorem up_tm {A B : List Tm} (hA : Up (nms A)) (hB : Up (nms B)) (h : ∀ w, getT A w = getT B w) : A = B := by
  refine tm_ext (up_ext hA hB fun w => ?_) hA.nd h
  have := h w
  constructor
  · intro q
    refine Classical.byContradiction fun z => ?_
    rw [getT_none.mpr z] at this
    exact getT_none.mp this q
  · intro q
    refine Classical.byContradiction fun z => ?_
    rw [getT_none.mpr z] at this
    exact getT_none.mp this.symm q
theorem srt_self {A : List Tm} (h : Up (nms A)) : srt A = A := up_tm (srt_up h.nd) h fun w => get_srt h.nd w
theorem srt_congr {A B : List Tm} (hA : (nms A).Nodup) (hB : (nms B).Nodup) (h : ∀ w, getT A w = getT B w) : srt A = srt B := up_tm (srt_up hA) (srt_up hB) fun w => by rw [get_srt hA, get_srt hB, h]
end
end DO

namespace DO
open PySem PySem.Spec PyProof.Rows L2
section
variable {P : Program} {w : World} {K : PySem.W.Frag} {mg : Str → Option Value} {base : Heap}
theorem sql_ofT {K : PySem.W.Frag} {H : Hp} {a : Addr} {xs : List V} (h : H a = some (.tup xs)) : SqT K H a xs := .inl (.inl h)
abbrev sIsN : Stmt := top 42
theorem scIsN : FnScope ["_law_actual"] ["_law_actual"] (defScope sIsN) := ⟨rfl, rfl, rfl, by decide +kernel, rfl, by decide +kernel, by decide +kernel⟩
def spIsN : Sp := fun vs H Q _ => ∃ n : Int, vs = [.int n] ∧ Q (.bl true) H
theorem ok_isN (D : Df K mg "_law_is_number" sIsN ["_law_actual"]) (mis : mg "isinstance" = none) (mint : mg "int" = none) (mbo : mg "bool" = none) : FnOk P w K mg base CX0 1 D.f D.fd ["_law_actual"] spIsN := by
  refine D.fn.ok scIsN (fun vs H Q E h => ?_) (fun cdv A outer s H vs Q E hr h => ?_)
  · obtain ⟨n, rfl, _⟩ := h
    rfl
  · obtain ⟨n, rfl, k⟩ := h
    refine ⟨_, (pss_one (ps_ret (pe_and (pe_callB call_isi (by rfl) mis (by decide +kernel) (pa_cons (pv 0) (pa_cons (pe_bltn (v := .ty "int") (by rfl) mint (by decide +kernel) rfl) pa_nil))) (pe_one (pe_not (pe_callB call_isi (by rfl) mis (by decide +kernel) (pa_cons (pv 0) (pa_cons (pe_bltn (v := .ty "bool") (by rfl) mbo (by decide +kernel) rfl) pa_nil)))))))), ?_⟩
    refine ⟨_, rfl, _, _, _, _, true, rfl, .ty "int", .base (.int n), kit_ty (by decide +kernel), true, rfl, ?_⟩
    refine iteT' rfl ?_
    exact ⟨_, rfl, _, _, _, _, false, rfl, .ty "bool", .base (.int n), kit_ty (by decide +kernel), false, rfl, k⟩
/-- the sorted keys of a law's dict: sorted([str(k) for k in d]) -/
def KeyL (M : List Tm) : List V := (nms M).map V.str
theorem keys_of {H : Hp} {kvs : List (Key × V)} {M : List Tm} (h : DAll H kvs M) : kvs.map (fun kv => kV kv.1) = KeyL M := by
  induction h with
  | nil => rfl
  | cons x t h r ih =>
    rw [List.map_cons, ih]
    rfl
end
end DO

namespace DO
open PySem PySem.Spec PyProof.Rows L2
section
variable {P : Program} {w : World} {K : PySem.W.Frag} {mg : Str → Option Value} {base : Heap}
/-! ### the class Form -/
abbrev sCls : Stmt := top 21
theorem ktc : ¬ (("constant" : Str) = "terms") := by decide +kernel
def ff (n : Int) (t : Addr) : List (Str × V) := putF "terms" (.ref t) (putF "constant" (.int n) [])
theorem ff_eq (n : Int) (t : Addr) : ff n t = ([("constant", V.int n), ("terms", V.ref t)] : List (Str × V)) := by
  show (if ("constant" : Str) = "terms" then [(("constant" : Str), V.ref t)] else (("constant" : Str), V.int n) :: putF "terms" (V.ref t) []) = ([("constant", V.int n), ("terms", V.ref t)] : List (Str × V))
  rw [if_neg ktc]
  rfl
theorem ff_c (n : Int) (t : Addr) : (ff n t).lookup ("constant" : Str) = some (.int n) := by
  unfold ff
  rw [lookup_putF, if_neg ktc, lookup_putF, if_pos rfl]
theorem ff_t (n : Int) (t : Addr) : (ff n t).lookup ("terms" : Str) = some (.ref t) := by
  unfold ff
  rw [lookup_putF, if_pos rfl]
theorem ff_no (n : Int) (t : Addr) {m : Str} (h1 : ¬ m = "terms") (h2 : ¬ m = "constant") : (ff n t).lookup m = none := by
  unfold ff
  rw [lookup_putF, if_neg h1, lookup_putF, if_neg h2]
  rfl
theorem ff_put (n : Int) (t u : Addr) : putF "terms" (.ref u) (ff n t) = ff n u := by
  rw [ff_eq, ff_eq]
  show (if ("constant" : Str) = "terms" then _ else (("constant" : Str), V.int n) :: (if ("terms" : Str) = "terms" then [(("terms" : Str), V.ref u)] else _)) = ([("constant", V.int n), ("terms", V.ref u)] : List (Str × V))
  rw [if_neg ktc, if_pos rfl]
/-- a form stands at p -/
def FormAt (C : Addr) (H : Hp) (p : Addr) (n : Int) (ts : List Tm) : Prop := ∃ dx t us, H p = some (.ins C dx (ff n t)) ∧ H t = some (.tup us) ∧ TAll H us ts
theorem FormAt.keep {C : Addr} {H H' : Hp} {p : Addr} {n : Int} {ts : List Tm} (h : FormAt C H p n ts) (k : Same H H') : FormAt C H' p n ts := by
  obtain ⟨dx, t, us, h1, h2, h3⟩ := h
  exact ⟨dx, t, us, k _ _ h1, k _ _ h2, h3.mono fun t xs z => k _ _ z⟩
theorem FormAt.kp {C a : Addr} {H H' : Hp} {p : Addr} {n : Int} {ts : List Tm} {xs : List V} (h : FormAt C H p n ts) (k : Kp a H H') (ha : H a = some (.lst xs)) : FormAt C H' p n ts := by
  obtain ⟨dx, t, us, h1, h2, h3⟩ := h
  exact ⟨dx, t, us, k _ _ h1 (ne_of h1 ha fun z => nomatch z), tup_kp k ha _ _ h2, h3.mono (tup_kp k ha)⟩
/-- what is asked of the class as the top has made it -/
structure Frm (K : PySem.W.Frag) (mg : Str → Option Value) (C : Addr) : Prop where
  cl : Cls K C
  nC : NoAttr K C "constant"
  nT : NoAttr K C "terms"
  mgC : mg "Form" = some (.ref C)
  sf : PySem.W.selfFirst K C = true
  ha : PySem.W.findIn K (.ref C) "__class__" = some (some (.builtin "object.__class__"))
  hn : PySem.W.specialIn K (.builtin "object.__class__") "__get__" = some (some (.builtin "getset_descriptor.__get__"))
  ht : PySem.W.takesIn K (.builtin "object.__class__") = some true
  hm : PySem.W.mroIn K C (.type "object") = some true
  kC : PySem.W.kitOne K (.ref C) (.ref C) = some true
  kI : PySem.W.kitOne K (.type "int") (.ref C) = some false
  kJ : PySem.W.kitOne K (.ref C) (.type "int") = some false
  nF : PySem.W.notFirst K C (.type "int") = true
  sJ : PySem.W.subIn K (.ref C) (.type "int") = some false
  sI : PySem.W.subIn K (.type "int") (.ref C) = some false
theorem TyX_frm {C : Addr} (T : Frm K mg C) {H : Hp} {p : Addr} {n : Int} {ts : List Tm} (h : FormAt C H p n ts) : TyX K H (.ref p) (.ref C) := by
  obtain ⟨dx, t, us, h1, _⟩ := h
  exact .base (.ins h1 T.cl T.ha T.hn T.ht T.hm)
theorem made_same {C x dx : Addr} {H H' : Hp} (nx : H x = none) (nd : H dx = none) (k : ∀ b o, (upd (upd H dx (.own x)) x (.ins C dx [])) b = some o → b ≠ x → H' b = some o) : Same H H' := Same.made nx nd k
abbrev sIni : Stmt := inClass sCls 0
theorem scIni : FnScope ["self", "constant"] ["self", "constant"] (defScope sIni) := ⟨rfl, rfl, rfl, by decide +kernel, rfl, by decide +kernel, by decide +kernel⟩
def spIni (C : Addr) : Sp := fun vs H Q _ => ∃ (p dx : Addr) (n : Int), vs = [.ref p, .int n] ∧ H p = some (.ins C dx []) ∧ ∀ t H', H t = none → H' p = some (.ins C dx (ff n t)) → H' t = some (.tup []) → (∀ b o, H b = some o → b ≠ p → H' b = some o) → Q .non H'
theorem ok_ini {C : Addr} (T : Frm K mg C) (M : Mf K C "__init__" "Form.__init__" sIni ["self", "constant"]) : FnOk P w K mg base CX0 1 M.f M.fd ["self", "constant"] (spIni C) := by
  refine M.fn.ok scIni (fun vs H Q E h => ?_) (fun cdv A outer s H vs Q E hr h => ?_)
  · obtain ⟨p, dx, n, rfl, _⟩ := h
    rfl
  · obtain ⟨p, dx, n, rfl, hp, k⟩ := h
    refine ⟨_, (pss_cons (ps_fld (pv 0) (pv 1) rfl)
      (pss_one (ps_fld (pv 0) (pe_tup pa_nil) rfl))), ?_⟩
    refine ⟨_, rfl, _, rfl, p, C, dx, [], rfl, hp, T.cl, T.nC, (by show 0 < 1000; decide), ?_⟩
    refine ⟨Nat.zero_le _, fun t nt => ?_⟩
    have npt : p ≠ t := ne_of_none upd_same nt
    have nt0 : H t = none := by
      rw [upd_ne npt.symm] at nt
      exact nt
    refine ⟨_, rfl, p, C, dx, _, rfl, (by rw [upd_ne npt]; exact upd_same), T.cl, T.nT, (by show 1 < 1000; decide), ?_⟩
    refine k t _ nt0 upd_same (by rw [upd_ne npt.symm, upd_same]) fun b o e nb => ?_
    rw [upd_ne nb, upd_ne (ne_of_none e nt0), upd_ne nb]
    exact e
abbrev sFof : Stmt := top 22
theorem scFof : FnScope ["constant", "terms", "made"] ["constant", "terms"] (defScope sFof) := ⟨rfl, rfl, rfl, by decide +kernel, rfl, by decide +kernel, by decide +kernel⟩
def spFof (K : PySem.W.Frag) (C : Addr) : Sp := fun vs H Q _ => ∃ (n : Int) (a : Addr) (us : List V) (ts : List Tm), vs = [.int n, .ref a] ∧ (H a = some (.lst us) ∨ H a = some (.tup us)) ∧ TAll H us ts ∧ ∀ p H', H p = none → Same H H' → FormAt C H' p n ts → Q (.ref p) H'
theorem ok_fof {C : Addr} (T : Frm K mg C) (D : Df K mg "form_of" sFof ["constant", "terms"]) (MI : Mf K C "__init__" "Form.__init__" sIni ["self", "constant"]) (MK : Mk K C MI.f) (mtu : mg "tuple" = none) : FnOk P w K mg base CX0 3 D.f D.fd ["constant", "terms"] (spFof K C) := by
  have GI : FnOk P w K mg base CX0 1 MI.f MI.fd ["self", "constant"] (spIni C) := ok_ini T MI
  refine D.fn.ok scFof (fun vs H Q E h => ?_) (fun cdv A outer s H vs Q E hr h => ?_)
  · obtain ⟨n, a, us, ts, rfl, _⟩ := h
    rfl
  · obtain ⟨n, a, us, ts, rfl, ha, hT, k⟩ := h
    refine ⟨_, (pss_cons (ps_set (i := 2) scFof.nd rfl (.inl rfl) (pe_make MK GI hr rfl T.mgC MI.bd .nil pass0 (pa_cons (pv 0) pa_nil)))
      (pss_cons (ps_fld (pv 2) (pe_callTy call_tuple_of (by rfl) mtu (by decide +kernel) (pa_cons (pv 1) pa_nil)) rfl)
      (pss_one (ps_ret (pv 2))))), ?_⟩
    refine ⟨_, rfl, fun x dx nx ndx hne => ⟨x, dx, n, rfl, upd_same, fun t0 H1 nt0 hx ht0 kp => ⟨rfl, ?_⟩⟩⟩
    have s1 := made_same nx ndx kp
    have last : ∀ (q : Addr) (H2 : Hp), H2 q = some (.tup us) → Same H1 H2 → FormAt C (upd H2 x (.ins C dx (putF "terms" (.ref q) (ff n t0)))) x n ts ∧ Same H (upd H2 x (.ins C dx (putF "terms" (.ref q) (ff n t0)))) := fun q H2 hq s2 => by
      have hxq : q ≠ x := ne_of hq (s2 _ _ hx) fun z => nomatch z
      have s12 := s1.trans s2
      refine ⟨⟨dx, q, us, by rw [upd_same, ff_put], by rw [upd_ne hxq]; exact hq, hT.mono fun t xs z => ?_⟩, fun b o e => ?_⟩
      · rw [upd_ne (ne_of (s12 _ _ z) (s2 _ _ hx) fun z => nomatch z)]
        exact s12 _ _ z
      · rw [upd_ne (ne_of_none e nx)]
        exact s12 _ _ e
    rcases ha with ha | ha
    · refine ⟨_, rfl, a, us, rfl, .inl ⟨sql_of (s1 _ _ ha), fun l nl => ?_⟩⟩
      have s2 := same_upd (o := .tup us) nl
      obtain ⟨h1, h2⟩ := last l _ upd_same s2
      exact ⟨_, rfl, x, C, dx, _, rfl, s2 _ _ hx, T.cl, T.nT, (by rw [ff_eq]; show 2 < 1000; decide), _, rfl, k x _ nx h2 h1⟩
    · obtain ⟨h1, h2⟩ := last a H1 (s1 _ _ ha) (fun _ _ e => e)
      exact ⟨_, rfl, a, us, rfl, .inr ⟨sql_ofT (s1 _ _ ha), _, rfl, x, C, dx, _, rfl, hx, T.cl, T.nT, (by rw [ff_eq]; show 2 < 1000; decide), _, rfl, k x _ nx h2 h1⟩⟩
end
end DO

namespace DO
open PySem PySem.Spec PyProof.Rows L2
section
variable {P : Program} {w : World} {K : PySem.W.Frag} {mg : Str → Option Value} {base : Heap}
abbrev sMul : Stmt := inClass sCls 5
theorem scMul : FnScope ["self", "other", "terms", "name", "times", "low", "high"] ["self", "other"] (defScope sMul) := ⟨rfl, rfl, rfl, by decide +kernel, rfl, by decide +kernel, by decide +kernel⟩
/-- times a number: what is left -/
def mulT (t : Int) (ts : List Tm) : List Tm := if t = 0 then [] else ts.map fun x => ⟨x.nm, x.k * t, x.lo, x.hi⟩
def Bd (B : Nat) (n : Int) (ts : List Tm) : Prop := n.natAbs < 2 ^ B ∧ ∀ x ∈ ts, x.k.natAbs < 2 ^ B ∧ x.lo.natAbs < 2 ^ B ∧ x.hi.natAbs < 2 ^ B
theorem Bd.mono {B B' : Nat} {n : Int} {ts : List Tm} (h : Bd B n ts) (e : B ≤ B') : Bd B' n ts := by
  have z : 2 ^ B ≤ 2 ^ B' := Nat.pow_le_pow_right (by decide) e
  exact ⟨Nat.lt_of_lt_of_le h.1 z, fun x hx => ⟨Nat.lt_of_lt_of_le (h.2 x hx).1 z, Nat.lt_of_lt_of_le (h.2 x hx).2.1 z, Nat.lt_of_lt_of_le (h.2 x hx).2.2 z⟩⟩
def spMul (C : Addr) : Sp := fun vs H Q _ => ∃ (p : Addr) (n t : Int) (ts : List Tm), vs = [.ref p, .int t] ∧ FormAt C H p n ts ∧ ts.length ≤ 900 ∧ Bd 10000 n ts ∧ t.natAbs < 2 ^ 10000 ∧
  ∀ r H', H r = none → Same H H' → FormAt C H' r (n * t) (mulT t ts) → Q (.ref r) H'
theorem ok_mul {C : Addr} (T : Frm K mg C) (M : Mf K C "__mul__" "Form.__mul__" sMul ["self", "other"]) (MI : Mf K C "__init__" "Form.__init__" sIni ["self", "constant"]) (MK : Mk K C MI.f)
    (DF : Df K mg "form_of" sFof ["constant", "terms"]) (GF : FnOk P w K mg base CX0 3 DF.f DF.fd ["constant", "terms"] (spFof K C)) (mis : mg "isinstance" = none) (mint : mg "int" = none) : FnOk P w K mg base CX0 4 M.f M.fd ["self", "other"] (spMul C) := by
  have GI : FnOk P w K mg base CX0 1 MI.f MI.fd ["self", "constant"] (spIni C) := ok_ini T MI
  refine M.fn.ok scMul (fun vs H Q E h => ?_) (fun cdv A outer s H vs Q E hr h => ?_)
  · obtain ⟨p, n, t, ts, rfl, _⟩ := h
    rfl
  · obtain ⟨p, n, t, ts, rfl, hp, hsz, hb, ht, k⟩ := h
    refine ⟨_, (pss_cons (ps_if (pt_not (pt_val (pe_callB call_isi (by rfl) mis (by decide +kernel) (pa_cons (pv 1) (pa_cons (pe_bltn (v := .ty "int") (by rfl) mint (by decide +kernel) rfl) pa_nil)))))
      (pss_one (ps_never))
      pss_nil)
      (pss_cons (ps_if (pt_cmpR op_eq (pv 1) pe_int (nomark _))
      (pss_one (ps_ret (pe_make MK GI (hr.mono (by decide)) rfl T.mgC MI.bd .nil pass0 (pa_cons pe_int pa_nil))))
      pss_nil)
      (pss_cons (ps_setLc (i := 2) (own := [("name", 3), ("times", 4), ("low", 5), ("high", 6)]) (g := (gTup K 4 (gCons (gName 3) (gCons (gName 4) (gCons (gName 5) (gCons (gName 6) gNil)))))) (tt := tYes) rfl scMul.nd rfl rfl (sw_true rfl rfl rfl (by decide +kernel)) (pi_tup (pe_fld (pv 0) rfl)) (blkOk_by (N := ["self", "other", "terms", "name", "times", "low", "high"]) (sc := defScope sMul) (by decide +kernel)) (fun _ _ _ _ _ => (pg_tup rfl (pgs_cons (pg_name (i := 3) scMul.nd rfl (Or.inl rfl)) (pgs_cons (pg_name (i := 4) scMul.nd rfl (Or.inl rfl)) (pgs_cons (pg_name (i := 5) scMul.nd rfl (Or.inl rfl)) (pgs_cons (pg_name (i := 6) scMul.nd rfl (Or.inl rfl)) pgs_nil)))))) (fun _ _ _ _ _ => pts_nil) (fun _ _ _ _ _ => (pe_tup (pa_cons (pv 3) (pa_cons (pe_op op_mulWL (pv 4) (pv 1)) (pa_cons (pv 5) (pa_cons (pv 6) pa_nil)))))))
      (pss_one (ps_ret (pe_call GF hr (by rfl) DF.mgf DF.fn.kp DF.bd .nil pass0 (pa_cons (pe_op op_mulWL (pe_fld (pv 0) rfl) (pv 1)) (pa_cons (pv 2) pa_nil)))))))), ?_⟩
    refine ⟨_, rfl, _, _, _, _, true, rfl, .ty "int", .base (.int t), kit_ty (by decide +kernel), true, rfl, ?_⟩
    refine iteF' rfl ?_
    obtain ⟨dx, tt, us, h1, h2, h3⟩ := id hp
    refine ⟨_, rfl, rfl, _, rfl, ite2 (fun e => ?_) (fun e => ?_)⟩
    · have e0 : t = 0 := by simpa using e
      refine fun x dx' nx ndx hne => ⟨x, dx', 0, rfl, upd_same, fun t0 H1 nt0 hx ht0 kp => ⟨rfl, ?_⟩⟩
      refine k x H1 nx (made_same nx ndx kp) ?_
      subst e0
      rw [Int.mul_zero]
      exact ⟨dx', t0, [], hx, ht0, .nil⟩
    · have e0 : ¬ t = 0 := fun z => e (by rw [z]; decide)
      refine ⟨_, rfl, p, C, dx, _, _, rfl, h1, T.cl, T.nT, ff_t _ _, tt, rfl, ⟨us, sql_ofT h2⟩, fun D nD => lc_tup (K := K) (a := tt) (xs := us) (fun i H2 => ∃ ws, H2 D = some (.lst ws) ∧ TAll H2 ws ((ts.take i).map fun x => ⟨x.nm, x.k * t, x.lo, x.hi⟩) ∧ Same H H2) ⟨[], upd_same, .nil, same_upd nD⟩ (fun i H2 _ ⟨_, _, _, z⟩ => sql_ofT (z _ _ h2)) ?_ ?_⟩
      · rintro i y H2 hi ⟨ws, hD, hT, sm⟩
        obtain ⟨x, q, hx, rfl, hq⟩ := h3.at_ hi
        obtain ⟨hb1, hb2⟩ := hb
        have hxm := List.mem_of_getElem? hx
        refine ⟨q, _, rfl, sql_ofT (sm _ _ hq), rfl, _, _, rfl, _, _, rfl, _, _, rfl, _, _, rfl, rfl, rfl, ?_⟩
        refine ⟨_, rfl, _, rfl, _, rfl, x.k, t, rfl, rfl, wide_mul (hb2 x hxm).1 ht (by decide) (by decide) (by decide), fun r er => ⟨_, rfl, _, rfl, (by show 4 ≤ sizeLine; decide), fun z nz => ?_⟩⟩
        have sz := same_upd (o := .tup [V.str x.nm, V.int r, V.int x.lo, V.int x.hi]) nz
        have hDz := sz _ _ hD
        have nzD : z ≠ D := (ne_of_none hD nz).symm
        refine ⟨ws, hDz, ?_, ws ++ [.ref z], upd_same, ?_, ?_⟩
        · rw [hT.len, List.length_map, List.length_take]
          exact small1000 (by omega)
        · rw [List.take_add_one, hx, Option.toList_some, List.map_append]
          refine TAll.app (hT.mono fun t xs w => ?_) (.cons _ z ?_ .nil)
          · have z2 := sz _ _ w
            rw [upd_ne (ne_of z2 hDz fun w => nomatch w)]
            exact z2
          · rw [upd_ne nzD, upd_same, er]
        · intro b o eb
          rw [upd_ne (ne_of_none eb nD)]
          exact sz _ _ (sm _ _ eb)
      · rintro H2 ⟨ws, hD, hT, sm⟩
        have hl := h3.len
        rw [List.take_of_length_le (by omega)] at hT
        refine ⟨_, rfl, p, C, dx, _, _, rfl, sm _ _ h1, T.cl, T.nC, ff_c _ _, _, rfl, n, t, rfl, rfl, wide_mul hb.1 ht (by decide) (by decide) (by decide), fun r er => ⟨_, rfl, r, D, ws, _, rfl, .inl hD, hT, fun q H3 nq s3 hf => ?_⟩⟩
        rw [er] at hf
        refine k q H3 (sm.free nq) (sm.trans s3) ?_
        unfold mulT
        rw [if_neg e0]
        exact hf
end
end DO

namespace DO
open PySem PySem.Spec PyProof.Rows L2
section
variable {P : Program} {w : World} {K : PySem.W.Frag} {mg : Str → Option Value} {base : Heap}
/-- what else is asked for a number times a form -/
structure FrmM (K : PySem.W.Frag) (C : Addr) : Prop where
  im : PySem.W.findIn K (.type "int") "__mul__" = some (some (.builtin "int.__mul__"))
  ir : PySem.W.findIn K (.type "int") "__rmul__" = some (some (.builtin "int.__rmul__"))
abbrev sRmu : Stmt := inClass sCls 6
theorem scRmu : FnScope ["self", "other"] ["self", "other"] (defScope sRmu) := ⟨rfl, rfl, rfl, by decide +kernel, rfl, by decide +kernel, by decide +kernel⟩
theorem ok_rmu {C : Addr} (T : Frm K mg C) (TM : FrmM K C) (MR : Mf K C "__rmul__" "Form.__rmul__" sRmu ["self", "other"]) (MM : Mf K C "__mul__" "Form.__mul__" sMul ["self", "other"]) (GM : FnOk P w K mg base CX0 4 MM.f MM.fd ["self", "other"] (spMul C)) :
    FnOk P w K mg base CX0 5 MR.f MR.fd ["self", "other"] (spMul C) := by
  refine MR.fn.ok scRmu (fun vs H Q E h => ?_) (fun cdv A outer s H vs Q E hr h => ?_)
  · obtain ⟨p, n, t, ts, rfl, _⟩ := h
    rfl
  · obtain ⟨p, n, t, ts, rfl, hp, hsz, hb, ht, k⟩ := h
    have hr4 : Room 4 _ := hr
    refine ⟨_, (pss_one (ps_ret (pe_op (op_binI (op := .Mult) rfl rfl MM.me T.sf MR.me.at_ (.inr ⟨_, rfl⟩) TM.im TM.ir T.sI GM hr4 MM.bd pass0) (pv 0) (pv 1)))), ?_⟩
    obtain ⟨dx, tt, us, h1, h2, h3⟩ := id hp
    exact ⟨_, rfl, _, rfl, p, dx, _, t, rfl, rfl, h1, p, n, t, ts, rfl, hp, hsz, hb, ht, k⟩
abbrev sNeg : Stmt := inClass sCls 7
theorem scNeg : FnScope ["self"] ["self"] (defScope sNeg) := ⟨rfl, rfl, rfl, by decide +kernel, rfl, by decide +kernel, by decide +kernel⟩
def spNeg (C : Addr) : Sp := fun vs H Q _ => ∃ (p : Addr) (n : Int) (ts : List Tm), vs = [.ref p] ∧ FormAt C H p n ts ∧ ts.length ≤ 900 ∧ Bd 10000 n ts ∧ ∀ r H', H r = none → Same H H' → FormAt C H' r (n * -1) (mulT (-1) ts) → Q (.ref r) H'
theorem ok_neg {C : Addr} (T : Frm K mg C) (TM : FrmM K C) (MN : Mf K C "__neg__" "Form.__neg__" sNeg ["self"]) (MR : Mf K C "__rmul__" "Form.__rmul__" sRmu ["self", "other"]) (MM : Mf K C "__mul__" "Form.__mul__" sMul ["self", "other"]) (GM : FnOk P w K mg base CX0 4 MM.f MM.fd ["self", "other"] (spMul C)) :
    FnOk P w K mg base CX0 5 MN.f MN.fd ["self"] (spNeg C) := by
  refine MN.fn.ok scNeg (fun vs H Q E h => ?_) (fun cdv A outer s H vs Q E hr h => ?_)
  · obtain ⟨p, n, ts, rfl, _⟩ := h
    rfl
  · obtain ⟨p, n, ts, rfl, hp, hsz, hb, k⟩ := h
    have hr4 : Room 4 _ := hr
    refine ⟨_, (pss_one (ps_ret (pe_op (op_binI (op := .Mult) rfl rfl MM.me T.sf MR.me.at_ (.inr ⟨_, rfl⟩) TM.im TM.ir T.sI GM hr4 MM.bd pass0) (pv 0) (pe_un un_neg pe_int)))), ?_⟩
    obtain ⟨dx, tt, us, h1, h2, h3⟩ := id hp
    exact ⟨_, rfl, 1, rfl, p, dx, _, -1, rfl, rfl, h1, p, n, -1, ts, rfl, hp, hsz, hb, by decide +kernel, k⟩
def mnT (x : Tm) : Int := x.k * (if x.k > 0 then x.lo else x.hi)
def mxT (x : Tm) : Int := x.k * (if x.k > 0 then x.hi else x.lo)
def spEnd (C : Addr) (f : Tm → Int) : Sp := fun vs H Q _ => ∃ (p : Addr) (n : Int) (ts : List Tm), vs = [.ref p] ∧ FormAt C H p n ts ∧ ts.length ≤ 900 ∧ Bd 10000 n ts ∧ ∀ H', Same H H' → Q (.int (n + (ts.map f).sum)) H'
abbrev sLeast : Stmt := inClass sCls 11
theorem scLeast : FnScope ["self", "name", "times", "low", "high"] ["self"] (defScope sLeast) := ⟨rfl, rfl, rfl, by decide +kernel, rfl, by decide +kernel, by decide +kernel⟩
theorem ok_least {C : Addr} (T : Frm K mg C) {f : Addr} {fd : FuncData} (M : Fun K "least" "Form.least" sLeast f fd) (ms : mg "sum" = none) : FnOk P w K mg base CX0 1 f fd ["self"] (spEnd C mnT) := by
  refine M.ok scLeast (fun vs H Q E h => ?_) (fun cdv A outer s H vs Q E hr h => ?_)
  · obtain ⟨p, n, ts, rfl, _⟩ := h
    rfl
  · obtain ⟨p, n, ts, rfl, hp, hsz, hb, k⟩ := h
    refine ⟨_, (pss_one (ps_ret (pe_op op_addL (pe_fld (pv 0) rfl) (pe_callB (cr_sum rfl) (by rfl) ms (by decide +kernel) (pa_cons (pe_lc (own := [("name", 1), ("times", 2), ("low", 3), ("high", 4)]) (g := (gTup K 4 (gCons (gName 1) (gCons (gName 2) (gCons (gName 3) (gCons (gName 4) gNil)))))) (tt := tYes) rfl scLeast.nd (pi_tup (pe_fld (pv 0) rfl)) (blkOk_by (N := ["self", "name", "times", "low", "high"]) (sc := defScope sLeast) (by decide +kernel)) (fun _ _ _ _ _ => (pg_tup rfl (pgs_cons (pg_name (i := 1) scLeast.nd rfl (Or.inl rfl)) (pgs_cons (pg_name (i := 2) scLeast.nd rfl (Or.inl rfl)) (pgs_cons (pg_name (i := 3) scLeast.nd rfl (Or.inl rfl)) (pgs_cons (pg_name (i := 4) scLeast.nd rfl (Or.inl rfl)) pgs_nil)))))) (fun _ _ _ _ _ => pts_nil) (fun _ _ _ _ _ => (pe_op op_mulWL (pv 2) (pe_ifExp (pt_cmpR op_gt (pv 2) pe_int (nomark _)) (pv 3) (pv 4))))) pa_nil))))), ?_⟩
    obtain ⟨dx, tt, us, h1, h2, h3⟩ := id hp
    have hl := h3.len
    refine ⟨_, rfl, p, C, dx, _, _, rfl, h1, T.cl, T.nC, ff_c _ _, _, rfl, p, C, dx, _, _, rfl, h1, T.cl, T.nT, ff_t _ _, tt, rfl, ⟨us, sql_ofT h2⟩, fun D nD => lc_tup (K := K) (a := tt) (xs := us) (fun i H2 => H2 = upd H D (.lst (((ts.take i).map mnT).map V.int))) rfl (fun i H2 _ z => sql_ofT (by rw [z]; exact (same_upd nD) _ _ h2)) ?_ ?_⟩
    · rintro i y H2 hi rfl
      obtain ⟨x, q, hx, rfl, hq⟩ := h3.at_ hi
      obtain ⟨hb1, hb2⟩ := hb
      obtain ⟨b1, b2, b3⟩ := hb2 x (List.mem_of_getElem? hx)
      refine ⟨q, _, rfl, sql_ofT ((same_upd nD) _ _ hq), rfl, _, _, rfl, _, _, rfl, _, _, rfl, _, _, rfl, rfl, rfl, ?_⟩
      have fin : ∀ r : Int, r = mnT x → ∃ acc, (upd H D (.lst (((ts.take i).map mnT).map V.int))) D = some (.lst acc) ∧ acc.length < sizeLine ∧ upd (upd H D (.lst (((ts.take i).map mnT).map V.int))) D (.lst (acc ++ [V.int r])) = upd H D (.lst (((ts.take (i + 1)).map mnT).map V.int)) := fun r er => by
        refine ⟨_, upd_same, ?_, ?_⟩
        · rw [List.length_map, List.length_map, List.length_take]
          exact small1000 (by omega)
        · rw [upd_upd, List.take_add_one, hx, Option.toList_some, List.map_append, List.map_append, er]
          rfl
      refine ⟨_, rfl, _, rfl, _, _, rfl, rfl, _, rfl, ite2 (fun e => ?_) (fun e => ?_)⟩
      · have e2 : x.k > 0 := of_decide_eq_true e
        exact ⟨_, rfl, x.k, _, rfl, rfl, wide_mul b1 (by assumption) (by decide) (by decide) (by decide), fun r er => fin r (by unfold mnT; rw [if_pos e2]; exact er)⟩
      · have e2 : ¬ x.k > 0 := fun z => e (decide_eq_true z)
        exact ⟨_, rfl, x.k, _, rfl, rfl, wide_mul b1 (by assumption) (by decide) (by decide) (by decide), fun r er => fin r (by unfold mnT; rw [if_neg e2]; exact er)⟩
    · rintro H2 rfl
      rw [List.take_of_length_le (by omega)]
      exact ⟨D, _, rfl, sql_of upd_same, _, _, rfl, rfl, fun r er => by rw [er]; exact k _ (same_upd nD)⟩
abbrev sMost : Stmt := inClass sCls 12
theorem scMost : FnScope ["self", "name", "times", "low", "high"] ["self"] (defScope sMost) := ⟨rfl, rfl, rfl, by decide +kernel, rfl, by decide +kernel, by decide +kernel⟩
theorem ok_most {C : Addr} (T : Frm K mg C) {f : Addr} {fd : FuncData} (M : Fun K "most" "Form.most" sMost f fd) (ms : mg "sum" = none) : FnOk P w K mg base CX0 1 f fd ["self"] (spEnd C mxT) := by
  refine M.ok scMost (fun vs H Q E h => ?_) (fun cdv A outer s H vs Q E hr h => ?_)
  · obtain ⟨p, n, ts, rfl, _⟩ := h
    rfl
  · obtain ⟨p, n, ts, rfl, hp, hsz, hb, k⟩ := h
    refine ⟨_, (pss_one (ps_ret (pe_op op_addL (pe_fld (pv 0) rfl) (pe_callB (cr_sum rfl) (by rfl) ms (by decide +kernel) (pa_cons (pe_lc (own := [("name", 1), ("times", 2), ("low", 3), ("high", 4)]) (g := (gTup K 4 (gCons (gName 1) (gCons (gName 2) (gCons (gName 3) (gCons (gName 4) gNil)))))) (tt := tYes) rfl scMost.nd (pi_tup (pe_fld (pv 0) rfl)) (blkOk_by (N := ["self", "name", "times", "low", "high"]) (sc := defScope sMost) (by decide +kernel)) (fun _ _ _ _ _ => (pg_tup rfl (pgs_cons (pg_name (i := 1) scMost.nd rfl (Or.inl rfl)) (pgs_cons (pg_name (i := 2) scMost.nd rfl (Or.inl rfl)) (pgs_cons (pg_name (i := 3) scMost.nd rfl (Or.inl rfl)) (pgs_cons (pg_name (i := 4) scMost.nd rfl (Or.inl rfl)) pgs_nil)))))) (fun _ _ _ _ _ => pts_nil) (fun _ _ _ _ _ => (pe_op op_mulWL (pv 2) (pe_ifExp (pt_cmpR op_gt (pv 2) pe_int (nomark _)) (pv 4) (pv 3))))) pa_nil))))), ?_⟩
    obtain ⟨dx, tt, us, h1, h2, h3⟩ := id hp
    have hl := h3.len
    refine ⟨_, rfl, p, C, dx, _, _, rfl, h1, T.cl, T.nC, ff_c _ _, _, rfl, p, C, dx, _, _, rfl, h1, T.cl, T.nT, ff_t _ _, tt, rfl, ⟨us, sql_ofT h2⟩, fun D nD => lc_tup (K := K) (a := tt) (xs := us) (fun i H2 => H2 = upd H D (.lst (((ts.take i).map mxT).map V.int))) rfl (fun i H2 _ z => sql_ofT (by rw [z]; exact (same_upd nD) _ _ h2)) ?_ ?_⟩
    · rintro i y H2 hi rfl
      obtain ⟨x, q, hx, rfl, hq⟩ := h3.at_ hi
      obtain ⟨hb1, hb2⟩ := hb
      obtain ⟨b1, b2, b3⟩ := hb2 x (List.mem_of_getElem? hx)
      refine ⟨q, _, rfl, sql_ofT ((same_upd nD) _ _ hq), rfl, _, _, rfl, _, _, rfl, _, _, rfl, _, _, rfl, rfl, rfl, ?_⟩
      have fin : ∀ r : Int, r = mxT x → ∃ acc, (upd H D (.lst (((ts.take i).map mxT).map V.int))) D = some (.lst acc) ∧ acc.length < sizeLine ∧ upd (upd H D (.lst (((ts.take i).map mxT).map V.int))) D (.lst (acc ++ [V.int r])) = upd H D (.lst (((ts.take (i + 1)).map mxT).map V.int)) := fun r er => by
        refine ⟨_, upd_same, ?_, ?_⟩
        · rw [List.length_map, List.length_map, List.length_take]
          exact small1000 (by omega)
        · rw [upd_upd, List.take_add_one, hx, Option.toList_some, List.map_append, List.map_append, er]
          rfl
      refine ⟨_, rfl, _, rfl, _, _, rfl, rfl, _, rfl, ite2 (fun e => ?_) (fun e => ?_)⟩
      · have e2 : x.k > 0 := of_decide_eq_true e
        exact ⟨_, rfl, x.k, _, rfl, rfl, wide_mul b1 (by assumption) (by decide) (by decide) (by decide), fun r er => fin r (by unfold mxT; rw [if_pos e2]; exact er)⟩
      · have e2 : ¬ x.k > 0 := fun z => e (decide_eq_true z)
        exact ⟨_, rfl, x.k, _, rfl, rfl, wide_mul b1 (by assumption) (by decide) (by decide) (by decide), fun r er => fin r (by unfold mxT; rw [if_neg e2]; exact er)⟩
    · rintro H2 rfl
      rw [List.take_of_length_le (by omega)]
      exact ⟨D, _, rfl, sql_of upd_same, _, _, rfl, rfl, fun r er => by rw [er]; exact k _ (same_upd nD)⟩
end
end DO

namespace DO
open PySem PySem.Spec PyProof.Rows L2
section
variable {P : Program} {w : World} {K : PySem.W.Frag} {mg : Str → Option Value} {base : Heap}
/-! ### terms as data -/
def tmD (x : Tm) : PyData := .tuple [.str x.nm, .int x.k, .int x.lo, .int x.hi]
def tsD (ts : List Tm) : PyData := .tuple (ts.map tmD)
def NmsOk (ts : List Tm) : Prop := ∀ x ∈ ts, PyData.strOk x.nm = true
theorem dp_tm {H : Hp} {x : Tm} {t : Addr} (h : H t = some (.tup [.str x.nm, .int x.k, .int x.lo, .int x.hi])) : Dp K H (.ref t) (tmD x) := .tup (sql_ofT h) (.cons (.str _) (.cons (.int _) (.cons (.int _) (.cons (.int _) .nil))))
theorem dp_ts {H : Hp} {us : List V} {ts : List Tm} (h : TAll H us ts) : DpAll K H us (ts.map tmD) := by
  induction h with
  | nil => exact .nil
  | cons x t h r ih => exact .cons (dp_tm h) ih
theorem lay_tm {x : Tm} (h : PyData.strOk x.nm = true) : (tmD x).canLay0 = true := by
  unfold tmD
  simp [PyData.canLay0, PyData.canLayAll0, h]
theorem dep_tm (x : Tm) : (tmD x).depth = 1 := by
  unfold tmD
  simp [PyData.depth, PyData.depthAll]
theorem lay_ts : ∀ {ts : List Tm}, NmsOk ts → PyData.canLayAll0 (ts.map tmD) = true
  | [], _ => by simp [PyData.canLayAll0]
  | x :: r, h => by
    rw [List.map_cons, PyData.canLayAll0, lay_ts (ts := r) fun y hy => h y (List.mem_cons_of_mem _ hy), lay_tm (h x List.mem_cons_self)]
    rfl
theorem dep_ts : ∀ ts : List Tm, PyData.depthAll (ts.map tmD) ≤ 1
  | [] => by simp [PyData.depthAll]
  | x :: r => by
    rw [List.map_cons, PyData.depthAll, dep_tm]
    have := dep_ts r
    omega
theorem sh_ts {ts : List Tm} (h : NmsOk ts) : SeqAt.shaped (tsD ts) = true := by
  unfold SeqAt.shaped tsD
  rw [Bool.and_eq_true]
  refine ⟨by rw [PyData.canLay0]; exact lay_ts h, decide_eq_true ?_⟩
  rw [PyData.depth]
  have := dep_ts ts
  omega
theorem sh_tm {x : Tm} (h : PyData.strOk x.nm = true) : SeqAt.shaped (tmD x) = true := by
  unfold SeqAt.shaped
  rw [Bool.and_eq_true]
  refine ⟨lay_tm h, decide_eq_true ?_⟩
  rw [dep_tm]
  decide
theorem eqv_tm (x y : Tm) : PyData.eqv (tmD x) (tmD y) = decide (x = y) := by
  unfold tmD
  rw [PyData.eqv, PyData.eqvAll, PyData.eqvAll, PyData.eqvAll, PyData.eqvAll, PyData.eqvAll, PyData.eqv, PyData.eqv, PyData.eqv, PyData.eqv]
  rw [Bool.eq_iff_iff]
  cases x
  cases y
  simp
theorem eqv_ts : ∀ ts us : List Tm, PyData.eqvAll (ts.map tmD) (us.map tmD) = decide (ts = us)
  | [], [] => by simp [PyData.eqvAll]
  | x :: r, [] => by simp [PyData.eqvAll]
  | [], y :: s => by simp [PyData.eqvAll]
  | x :: r, y :: s => by
    rw [List.map_cons, List.map_cons, PyData.eqvAll, eqv_tm, eqv_ts r s, Bool.eq_iff_iff]
    simp
theorem eqv_tsD (ts us : List Tm) : PyData.eqv (tsD ts) (tsD us) = decide (ts = us) := by
  unfold tsD
  rw [PyData.eqv, eqv_ts]
abbrev sEq : Stmt := inClass sCls 8
theorem scEq : FnScope ["self", "other"] ["self", "other"] (defScope sEq) := ⟨rfl, rfl, rfl, by decide +kernel, rfl, by decide +kernel, by decide +kernel⟩
def spEqF (C : Addr) : Sp := fun vs H Q _ => ∃ (p : Addr) (n : Int) (ts : List Tm) (y : V), vs = [.ref p, y] ∧ FormAt C H p n ts ∧ NmsOk ts ∧ ((∃ q m us, y = .ref q ∧ FormAt C H q m us ∧ NmsOk us ∧ Q (.bl (decide (n = m ∧ ts = us))) H) ∨ ∃ i : Int, y = .int i ∧ Q (.bl false) H)
theorem ok_eq {C : Addr} (T : Frm K mg C) (M : Mf K C "__eq__" "Form.__eq__" sEq ["self", "other"]) (mis : mg "isinstance" = none) : FnOk P w K mg base CX0 1 M.f M.fd ["self", "other"] (spEqF C) := by
  refine M.fn.ok scEq (fun vs H Q E h => ?_) (fun cdv A outer s H vs Q E hr h => ?_)
  · obtain ⟨p, n, ts, y, rfl, _⟩ := h
    rfl
  · obtain ⟨p, n, ts, y, rfl, hp, ho, hy⟩ := h
    obtain ⟨dx, t, us, h1, h2, h3⟩ := id hp
    refine ⟨_, (pss_one (ps_ret (pe_and (pe_callB call_isi (by rfl) mis (by decide +kernel) (pa_cons (pv 1) (pa_cons (pe_glob (v := .ref C) (by rfl) T.mgC rfl) pa_nil))) (pe_and (pe_cmpR op_eq (pe_fld (pv 0) rfl) (pe_fld (pv 1) rfl) (nomark _)) (pe_one (pe_cmpR (op_eqD hr.units) (pe_fld (pv 0) rfl) (pe_fld (pv 1) rfl) (nomark _))))))), ?_⟩
    rcases hy with ⟨q, m, vs, rfl, hq, hv, k⟩ | ⟨i, rfl, k⟩
    · obtain ⟨dx', t', us', h1', h2', h3'⟩ := id hq
      refine ⟨_, rfl, _, _, _, _, true, rfl, .own C, TyX_frm T hq, T.kC, true, rfl, ?_⟩
      refine iteT' rfl ?_
      refine ⟨_, rfl, p, C, dx, _, _, rfl, h1, T.cl, T.nC, ff_c _ _, _, rfl, q, C, dx', _, _, rfl, h1', T.cl, T.nC, ff_c _ _, rfl, _, rfl, ite2 (fun e => ?_) (fun e => ?_)⟩
      · have e1 : n = m := by simpa using e
        refine ⟨_, rfl, p, C, dx, _, _, rfl, h1, T.cl, T.nT, ff_t _ _, _, rfl, q, C, dx', _, _, rfl, h1', T.cl, T.nT, ff_t _ _, tsD ts, tsD vs, .tup (sql_ofT h2) (dp_ts h3), .tup (sql_ofT h2') (dp_ts h3'), sh_ts ho, sh_ts hv, ?_⟩
        rw [eqv_tsD]
        have e2 : decide (ts = vs) = decide (n = m ∧ ts = vs) := by
          rw [Bool.eq_iff_iff]
          simp [e1]
        rw [e2]
        exact k
      · have e1 : ¬ n = m := by simpa using e
        have e2 : decide (n = m ∧ ts = vs) = false := decide_eq_false fun z => e1 z.1
        rw [e2] at k
        exact k
    · refine ⟨_, rfl, _, _, _, _, false, rfl, .own C, .base (.int i), T.kI, false, rfl, ?_⟩
      exact iteF' rfl k
end
end DO

namespace DO
open PySem PySem.Spec PyProof.Rows L2
section
variable {P : Program} {w : World} {K : PySem.W.Frag} {mg : Str → Option Value} {base : Heap}
/-! ### a dict comprehension over any walk -/
theorem dc_it {J : It} {n : Nat} {G : Hp → Prop} {Y : Nat → Hp → V → Hp → Prop} (w : Walk J n G Y) {g : TG} {tt : TT} {tk tv : TE} {vs : List Nat} {σ : L2.St} {H1 : Hp} {D : Addr} {Qd : Hp → Prop} (Pv : Nat → Hp → Prop) (h0 : Pv 0 (upd H1 D (.dK []))) (hG : ∀ i H, i ≤ n → Pv i H → G H)
    (hs : ∀ i x H H', i < n → Pv i H → Y i H x H' → g x (wipe σ vs) H' fun σ2 H2 => wipe σ2 vs = wipe σ vs ∧ tt σ2 H2 fun b H3 =>
      if b = true then tk σ2 H3 fun y H4 => tv σ2 H4 fun z H5 => ∃ kvs k, y = kV k ∧ H5 D = some (.dK kvs) ∧ kvs.length < sizeLine ∧ Pv (i + 1) (upd H5 D (.dK (putK kvs k z))) else Pv (i + 1) H3) (hd : ∀ H, Pv n H → Qd H) :
    ∃ W : Nat → Nat → Hp → Prop, (∃ m, W 0 m (upd H1 D (.dK []))) ∧ ∀ i m H, W i m H →
      (J.stop i H ∧ Qd H) ∨ (J.go i H ∧ ∃ Nx : Hp → Prop, (∀ H', Nx H' → ∃ m', m' < m ∧ W (i + 1) m' H') ∧ ∀ x H', J.yld i H x H' → g x (wipe σ vs) H' fun σ2 H2 => wipe σ2 vs = wipe σ vs ∧ tt σ2 H2 fun b H3 =>
        if b = true then tk σ2 H3 fun y H4 => tv σ2 H4 fun z H5 => ∃ kvs k, y = kV k ∧ H5 D = some (.dK kvs) ∧ kvs.length < sizeLine ∧ Nx (upd H5 D (.dK (putK kvs k z))) else Nx H3) := by
  refine ⟨fun i m H => m = n - i ∧ i ≤ n ∧ Pv i H, ⟨n, by simp, Nat.zero_le _, h0⟩, fun i m H hW => ?_⟩
  obtain ⟨rfl, hi, p⟩ := hW
  have gh := hG i H hi p
  rcases Nat.lt_or_ge i n with hlt | hge
  · exact .inr ⟨w.goes i H hlt gh, Pv (i + 1), fun H' p' => ⟨n - (i + 1), by omega, rfl, hlt, p'⟩, fun x H' y => hs i x H H' hlt p (w.yields i H x H' hlt gh y)⟩
  · have e : i = n := by omega
    subst e
    exact .inl ⟨w.stops H gh, hd H p⟩
section
variable {X : Cx}
theorem swD_true {kx vx : Expr} {gs : List Comprehension} {scope : Scope} {pos py : Pos} {y : Str} {l : Nat} {env : Env} (hk : env.scope.kind = .function) (hy : env.scope.names.lookup y = some .local) (hl : (py.line == pos.line) = true)
    (ha : (scope.names.any fun (n, k) => n == y && (k == .local || k == .cell)) = false) : swapsWith (.DictComp kx vx gs scope pos) (some (.Name y py)) l env = pure true := by
  have h1 : env.kindOf y = some .local := hy
  have h2 : env.blockKind = .function := by
    unfold Env.blockKind
    rw [hk]
    rfl
  unfold swapsWith
  simp only [h2, h1, ha, Expr.pos, hl]
  rfl
/-- name = {..} on one line, the name a local -/
theorem ps_setDc {i : Nat} {y : Str} {py : Pos} {kx vx tg iter : Expr} {ifs : List Expr} {scope : Scope} {own : List (Str × Nat)} {pos spos : Pos} {wi : TI} {g : TG} {tt : TT} {tk tv : TE} (hc : X.calm = true) (hN : X.N.Nodup) (hy : X.N[i]? = some y) (hyl : X.env.scope.names.lookup y = some .local)
    (hsw : swapsWith (.DictComp kx vx [⟨tg, iter, ifs, 0⟩] scope pos) (some (.Name y py)) spos.line X.env = pure true) (hi : PI X tg iter wi) (ok : BlkOk X.N X.env.scope scope own)
    (hg : ∀ (s : Shared) (H : Hp) (C : Addr) (cl : List (Str × Addr)) (fp : List Addr), PG (X.blk s H scope (compEnvC scope cl C X.env) fp) tg g) (ht : ∀ (s : Shared) (H : Hp) (C : Addr) (cl : List (Str × Addr)) (fp : List Addr), PTs (X.blk s H scope (compEnvC scope cl C X.env) fp) ifs tt)
    (hk : ∀ (s : Shared) (H : Hp) (C : Addr) (cl : List (Str × Addr)) (fp : List Addr), PE (X.blk s H scope (compEnvC scope cl C X.env) fp) kx tk) (hv : ∀ (s : Shared) (H : Hp) (C : Addr) (cl : List (Str × Addr)) (fp : List Addr), PE (X.blk s H scope (compEnvC scope cl C X.env) fp) vx tv)
    (hs : ∀ x, foldedSetIterable iter X.env x = pure x := by intro _; rfl) : PS X (.Assign [.Name y py] (.DictComp kx vx [⟨tg, iter, ifs, 0⟩] scope pos) spos) (tAsg (tDc wi g tt tk tv (own.map (·.2))) (gName i)) := by
  refine ⟨fun pins s σ H D I h => ?_⟩
  rw [exec_Assign_Name_used _ _ _ _ hsw]
  refine wpAny_bind (wpAny_standAt (wpAny_bind ?_))
  show wpAny _ X.A (do let _ ← comprehension (.DictComp kx vx [⟨tg, iter, ifs, 0⟩] scope pos) scope X.env (firstIterPos [⟨tg, iter, ifs, 0⟩] pos) newDict false (eval iter X.env) (some (assign (.Name y py) X.env))) _ _ s
  have h : tDc wi g tt tk tv (own.map (·.2)) σ H (fun x H1 => gName i x σ H1 D.nx) := h
  refine wpAny_bind (thn (dc_core (Qf := fun _ s' => SP X pins D .next s') hc hN I hi ok hg ht hk hv hs h fun L C s' m H' I' q hn f => ?_) fun _ s' hq => wpAny_pure (wpAny_pure hq))
  show wpAny _ _ (assign (.Name y py) X.env (.ref L)) _ _ _
  obtain ⟨f0, f1, f2, f3, f4, f5⟩ := f
  refine wpAny_assign_Name (store_ok2 (v := V.ref L) I' hN hy (.inl hyl) rfl (fun s2 I2 ⟨a, sb, ha⟩ => ?_) (.inr hyl))
  have hCa : C ≠ a := ha.elim (fun z => by rw [z]; exact f1) fun z e => f4 y a z e.symm
  exact ⟨m, hn.sameBut sb hCa, fun h3 sb3 => ⟨_, H', I2.turned (t' := s2.toks) (fun b o hb e => (sb3.2 b hb).trans e) f0 f1 f3 f4 f5, q⟩⟩
end
end
end DO

namespace DO
open PySem PySem.Spec PyProof.Rows L2
/-! ### raised where nothing is handled: the context of what is raised is None -/
section
variable {X : Cx}
/-- an own class with a text of its own for __init__, made and told with its context -/
theorem pmk_oexN {CX : CXT} {x : Str} {e : Expr} {es : List Expr} {ta : TA} {p pos : Pos} {C fI : Addr} {k : Nat} {fd : FuncData} {ps : List Str} {sp : Sp} {ds : List Value} {dvs : List V} (T : OexC X.K C) (iC : PySem.W.findIn X.K (.ref C) "__init__" = some (some (.ref fI)))
    (tI : PySem.W.typeIn X.K (.ref fI) = some (.type "function")) (F1 : FnOk X.prog X.w X.K X.mg X.base CX k fI fd ps sp) (hr : Room (k + 1) X.A) (hb : Binds X.K fd ps ds) (hd : Vals dvs ds) (hx : Passes CX X (fun _ _ _ => False)) (hg : Gl X x)
    (hm : X.mg x = some (.ref C)) (ha : PA X (e :: es) ta) (hdb : (x == ("__debug__" : Str)) = false := by decide) (he : starEach (e :: es) X.env = (false, eval e X.env) :: starEach es X.env := by rfl)
    (hpl : (backTo pos (starEach es X.env)).any (·.1) = false := by rfl) : L2N.PMk X (.Call (.Name x p) (e :: es) [] pos) (tMkO C sp dvs ta) := by
  intro pins s σ H Q I h
  obtain ⟨nm, q, N, bs, bm, sn, sub, ab, col, dd, k0, k1, k2, k3, k5, hC, hbm⟩ := T.cls
  refine wpAny_Call_Name_kw (ld_glob I hg hm ?_ hdb)
  refine PySem.W.callWith_K (h₀ := X.base) I.ok.mod.kin T.kC (wpAny_mono (ha.run pos pins s σ H _ I h) (fun us s1 z => ?_) fun _ _ z => z) he hpl
  obtain ⟨vs, H1, I1, r1, hz, q1⟩ := z
  refine ⟨I1.kIn, ?_⟩
  show wpAny _ _ (call (.ref C) us) _ _ _
  obtain ⟨hp, g, dr, tk, os⟩ := s1
  generalize ea : hp.objs.size + 1 = a
  have sz : hp.objs.size ≤ a := by omega
  have old : ∀ b o, hp.get? b = some o → ((hp.push (PySem.W.kdv_tup us)).push (PySem.HandSPX.excO C hp.objs.size)).get? b = some o := fun b o z => Heap.get?_push_of_some _ (Heap.get?_push_of_some _ z)
  have new : ((hp.push (PySem.W.kdv_tup us)).push (PySem.HandSPX.excO C hp.objs.size)).get? a = some (PySem.HandSPX.excO C hp.objs.size) := by
    subst ea
    heap_get
  have J : Inv X pins σ (upd H1 a (exo a C none)) ⟨(hp.push (PySem.W.kdv_tup us)).push (PySem.HandSPX.excO C hp.objs.size), g, dr, tk, os⟩ := I1.laid old sz (exo_ok new)
  have hq := q1 a (I1.hok.fresh sz)
  have rs : Vals (V.ref a :: (vs ++ dvs)) (Value.ref a :: (us ++ ds)) := .cons rfl (r1.append hd)
  have ln : (Value.ref a :: us ++ ds).length = ps.length := by
    have z := rs.length
    rw [F1.len _ _ _ _ hq] at z
    exact z.symm
  have lu : us.length ≤ sizeLine := by
    rw [← Paired.length r1, sizeLine_eq]
    omega
  have bd := hb _ (Value.ref a :: us) J.kIn ln
  have go := F1.run _ X.stack _ _ ⟨Value.ref a :: us, []⟩ (Value.ref a :: (us ++ ds)) _ _ (fun _ _ _ => False) (hr.make C us []) (J.env0.make C us []) bd rs hq
  subst ea
  refine wpAny_call (PySem.HandSPX.call_own F.excBase_ValueError (fun Y => PySem.HandSPX.refsVE_contains Y bm hbm) (I1.kIn _ _ hC) (PySem.W.looks_findIn I1.kIn iC) (fun self => PySem.W.bind_fn I1.kIn self tI) lu (codeAny_mono go fun r s' z => ?_))
  rcases r with er | fl
  · exact hx pins σ _ _ er s' J z
  cases fl with
  | next => exact False.elim z
  | brk => exact False.elim z
  | cont => exact False.elim z
  | ret u =>
    obtain ⟨v, H2, o2, b2, u2, h2, rv, ev, d, fs, xa, xd, nd, q2⟩ := z
    subst ev
    obtain ⟨hp2, g2, dr2, tk2, os2⟩ := s'
    obtain ⟨t0, G, J2, kG, nG, oG, na⟩ := mk_end0 (d2 := dr2) (t2 := tk2) I1 sz old u2 h2 o2 b2 xa xd nd
    refine ⟨rv, _, _, _, ⟨G, g2, dr2, tk2, os2⟩, _, .ref C, some d, rfl, J2, kG, nG, oG, ⟨rfl, rfl, fun ws hw => ?_⟩, rfl, rfl, na, rfl, b2, raises_own T.exC T.tyC, q2⟩
    cases hw
    rfl
end
section
variable {P : Program} {w : World} {K : PySem.W.Frag} {mg : Str → Option Value} {base : Heap}
/-- a def that may raise, what it raises having no context -/
theorem okN {x qual : Str} {st : Stmt} {f : Addr} {fd : FuncData} {N ps : List Str} {k : Nat} {sp : Sp} (F : Fun K x qual st f fd) (S : FnScope N ps (defScope st)) (len : ∀ vs H Q E, sp vs H Q E → vs.length = ps.length)
    (hbody : ∀ (cdv : Value) (A : Around) (outer : List Env) (s : Shared) (H : Hp) (vs : List V) (Q : VK) (E : XK), Room k (A.deeper (envOfC qual (defScope st) s.heap.objs.size f cdv)) → sp vs H Q E →
      ∃ t, PSs (cxOf (L2N.CX P w) P w K mg base N qual (defScope st) f cdv A outer s H E) (defBody st) t ∧ t { nx := fun _ H' => Q .non H', rt := Q } (L2.start N vs) H) : FnOk P w K mg base (L2N.CX P w) (k + 1) f fd ps sp := by
  obtain ⟨oc, od, kV, doc, pm, an, cdv, ct, osl, rfl, lk, hcd⟩ := F.ex
  exact fn_of lk hcd S len fun A outer s H vs Q E hr hsp => hbody cdv A outer s H vs Q E hr hsp
/-- a def that is called in an except suite -/
theorem okH {x qual : Str} {st : Stmt} {f : Addr} {fd : FuncData} {N ps : List Str} {k : Nat} {sp : Sp} (F : Fun K x qual st f fd) (S : FnScope N ps (defScope st)) (len : ∀ vs H Q E, sp vs H Q E → vs.length = ps.length)
    (hbody : ∀ (cdv : Value) (A : Around) (outer : List Env) (s : Shared) (H : Hp) (vs : List V) (Q : VK) (E : XK) (p : Addr × Obj), L2H.Hot1 A p → L2H.RoomH k (A.deeper (envOfC qual (defScope st) s.heap.objs.size f cdv)) → sp vs H Q E →
      ∃ t, PSs (L2H.cxH CX0 P w K mg base N qual (defScope st) f cdv A outer s H E p) (defBody st) t ∧ t { nx := fun _ H' => Q .non H', rt := Q } (L2.start N vs) H) : L2H.FnH P w K mg base CX0 (k + 1) f fd ps sp := by
  obtain ⟨oc, od, kV, doc, pm, an, cdv, ct, osl, rfl, lk, hcd⟩ := F.ex
  exact L2H.fn_ofH lk hcd S len fun A outer s H vs Q E p hot hr hsp => hbody cdv A outer s H vs Q E p hot hr hsp
end
end DO

namespace DO
open PySem PySem.Spec PyProof.Rows L2
section
variable {P : Program} {w : World} {K : PySem.W.Frag} {mg : Str → Option Value} {base : Heap}
/-! ### the errors: their __init__ -/
/-- an error that keeps one thing -/
def spX1 (K : PySem.W.Frag) (f : Str) : Sp := fun vs H Q _ => ∃ (a C : Addr) (y : V), vs = [.ref a, y] ∧ OexC K C ∧ PySem.W.findIn K (.ref C) f = some none ∧ H a = some (exo a C none) ∧ ∀ dx, H dx = none → dx ≠ a → Q .non (upd (upd H dx (exd dx [(f, y)])) a (exo a C (some dx)))
abbrev sXBadName : Stmt := inClass (top 2) 0
theorem scXBadName : FnScope ["self", "name"] ["self", "name"] (defScope sXBadName) := ⟨rfl, rfl, rfl, by decide +kernel, rfl, by decide +kernel, by decide +kernel⟩
theorem okX_BadName {f : Addr} {fd : FuncData} (F : Fun K "__init__" "BadName.__init__" sXBadName f fd) : FnOk P w K mg base CX0 1 f fd ["self", "name"] (spX1 K "name") := by
  refine F.ok scXBadName (fun vs H Q E h => ?_) (fun cdv A outer s H vs Q E hr h => ?_)
  · obtain ⟨a, C, y, rfl, _⟩ := h
    rfl
  · obtain ⟨a, C, y, rfl, T, hno, ha, k⟩ := h
    refine ⟨_, pss_one (ps_ost (pv 0) (pv 1)), ?_⟩
    exact ⟨_, rfl, _, rfl, a, C, rfl, T, hno, .inl ⟨ha, fun dx n ne => k dx n ne⟩⟩
abbrev sXUnknownName : Stmt := inClass (top 4) 0
theorem scXUnknownName : FnScope ["self", "name"] ["self", "name"] (defScope sXUnknownName) := ⟨rfl, rfl, rfl, by decide +kernel, rfl, by decide +kernel, by decide +kernel⟩
theorem okX_UnknownName {f : Addr} {fd : FuncData} (F : Fun K "__init__" "UnknownName.__init__" sXUnknownName f fd) : FnOk P w K mg base CX0 1 f fd ["self", "name"] (spX1 K "name") := by
  refine F.ok scXUnknownName (fun vs H Q E h => ?_) (fun cdv A outer s H vs Q E hr h => ?_)
  · obtain ⟨a, C, y, rfl, _⟩ := h
    rfl
  · obtain ⟨a, C, y, rfl, T, hno, ha, k⟩ := h
    refine ⟨_, pss_one (ps_ost (pv 0) (pv 1)), ?_⟩
    exact ⟨_, rfl, _, rfl, a, C, rfl, T, hno, .inl ⟨ha, fun dx n ne => k dx n ne⟩⟩
abbrev sXUnlikeEnds : Stmt := inClass (top 5) 0
theorem scXUnlikeEnds : FnScope ["self", "name"] ["self", "name"] (defScope sXUnlikeEnds) := ⟨rfl, rfl, rfl, by decide +kernel, rfl, by decide +kernel, by decide +kernel⟩
theorem okX_UnlikeEnds {f : Addr} {fd : FuncData} (F : Fun K "__init__" "UnlikeEnds.__init__" sXUnlikeEnds f fd) : FnOk P w K mg base CX0 1 f fd ["self", "name"] (spX1 K "name") := by
  refine F.ok scXUnlikeEnds (fun vs H Q E h => ?_) (fun cdv A outer s H vs Q E hr h => ?_)
  · obtain ⟨a, C, y, rfl, _⟩ := h
    rfl
  · obtain ⟨a, C, y, rfl, T, hno, ha, k⟩ := h
    refine ⟨_, pss_one (ps_ost (pv 0) (pv 1)), ?_⟩
    exact ⟨_, rfl, _, rfl, a, C, rfl, T, hno, .inl ⟨ha, fun dx n ne => k dx n ne⟩⟩
def spX2 (K : PySem.W.Frag) (f g : Str) : Sp := fun vs H Q _ => ∃ (a C : Addr) (y z : V), vs = [.ref a, y, z] ∧ OexC K C ∧ PySem.W.findIn K (.ref C) f = some none ∧ PySem.W.findIn K (.ref C) g = some none ∧ H a = some (exo a C none) ∧
  ∀ dx, H dx = none → dx ≠ a → Q .non (upd (upd (upd H dx (exd dx [(f, y)])) a (exo a C (some dx))) dx (exd dx [(g, z), (f, y)]))
abbrev sXBadEnds : Stmt := inClass (top 7) 0
theorem scXBadEnds : FnScope ["self", "low", "high"] ["self", "low", "high"] (defScope sXBadEnds) := ⟨rfl, rfl, rfl, by decide +kernel, rfl, by decide +kernel, by decide +kernel⟩
theorem okX_BadEnds {f : Addr} {fd : FuncData} (F : Fun K "__init__" "BadEnds.__init__" sXBadEnds f fd) : FnOk P w K mg base CX0 1 f fd ["self", "low", "high"] (spX2 K "low" "high") := by
  refine F.ok scXBadEnds (fun vs H Q E h => ?_) (fun cdv A outer s H vs Q E hr h => ?_)
  · obtain ⟨a, C, y, z, rfl, _⟩ := h
    rfl
  · obtain ⟨a, C, y, z, rfl, T, h1, h2, ha, k⟩ := h
    refine ⟨_, pss_cons (ps_ost (pv 0) (pv 1)) (pss_one (ps_ost (pv 0) (pv 2))), ?_⟩
    exact ⟨_, rfl, _, rfl, a, C, rfl, T, h1, .inl ⟨ha, fun dx n ne => ⟨_, rfl, _, rfl, a, C, rfl, T, h2, .inr ⟨dx, _, upd_same, (by rw [upd_ne ne]; exact upd_same), (by show 1 ≤ 900; decide), k dx n ne⟩⟩⟩⟩
/-- an error class of the text -/
structure Xc (K : PySem.W.Frag) (mg : Str → Option Value) (x qual : Str) (st : Stmt) (fs : List Str) (ps : List Str) where
  C : Addr
  f : Addr
  fd : FuncData
  gC : mg x = some (.ref C)
  ox : OexC K C
  iC : PySem.W.findIn K (.ref C) "__init__" = some (some (.ref f))
  tI : PySem.W.typeIn K (.ref f) = some (.type "function")
  fn : Fun K "__init__" qual st f fd
  bd : Binds K fd ps []
  no : ∀ g ∈ fs, PySem.W.findIn K (.ref C) g = some none
/-- what a raised error leaves: its dict at d -/
def Thrown (E : XK) (C : Addr) (H : Hp) (fs : List (Str × V)) : Prop := ∀ d H', H d = none → Same H H' → H' d = some (.xd fs) → E (.ref C) (some d) H'
theorem thrown_at {E : XK} {C : Addr} {H : Hp} {fs : List (Str × V)} (t : Thrown E C H fs) {a d : Addr} {H2 : Hp} (na : H a = none) (nd : H d = none) (k : ∀ b o, H b = some o → H2 b = some o) : E (.ref C) (some d) (upd (del H2 a) d (.xd fs)) :=
  t d _ nd (fun b o e => by rw [upd_ne (ne_of_none e nd), del_ne (ne_of_none e na)]; exact k b o e) upd_same
theorem Thrown.same {E : XK} {C : Addr} {H H' : Hp} {fs : List (Str × V)} (t : Thrown E C H fs) (k : Same H H') : Thrown E C H' fs := fun d H2 nd s e => t d H2 (k.free nd) (k.trans s) e
theorem read1 {C : Addr} {f : Str} {y : V} {H1 : Hp} {E : XK} (T : OexC K C) (no : PySem.W.findIn K (.ref C) f = some none) (t : Thrown E C H1 [(f, y)]) : [y].length ≤ 1000 ∧ ∀ a, H1 a = none → spX1 K f (.ref a :: ([y] ++ [])) (upd H1 a (exo a C none))
    (fun v H2 => v = .non ∧ ∃ (d : Addr) (fs : List (Str × V)), H2 a = some (exo a C (some d)) ∧ H2 d = some (exd d fs) ∧ H1 d = none ∧ E (.ref C) (some d) (upd (del H2 a) d (.xd fs))) (fun _ _ _ => False) := by
  refine ⟨(by show 1 ≤ 1000; decide), fun a na => ⟨a, C, y, rfl, T, no, upd_same, fun dx nd ne => ⟨rfl, dx, [(f, y)], upd_same, ?_, ?_, ?_⟩⟩⟩
  · rw [upd_ne ne, upd_same]
  · rw [upd_ne ne] at nd
    exact nd
  · rw [upd_ne ne] at nd
    refine thrown_at t na nd fun b o e => ?_
    rw [upd_ne (ne_of_none e na), upd_ne (ne_of_none e nd), upd_ne (ne_of_none e na)]
    exact e
theorem read2 {C : Addr} {f g : Str} {y z : V} {H1 : Hp} {E : XK} (T : OexC K C) (no : PySem.W.findIn K (.ref C) f = some none) (no2 : PySem.W.findIn K (.ref C) g = some none) (t : Thrown E C H1 [(g, z), (f, y)]) : [y, z].length ≤ 1000 ∧ ∀ a, H1 a = none → spX2 K f g (.ref a :: ([y, z] ++ [])) (upd H1 a (exo a C none))
    (fun v H2 => v = .non ∧ ∃ (d : Addr) (fs : List (Str × V)), H2 a = some (exo a C (some d)) ∧ H2 d = some (exd d fs) ∧ H1 d = none ∧ E (.ref C) (some d) (upd (del H2 a) d (.xd fs))) (fun _ _ _ => False) := by
  refine ⟨(by show 2 ≤ 1000; decide), fun a na => ⟨a, C, y, z, rfl, T, no, no2, upd_same, fun dx nd ne => ⟨rfl, dx, [(g, z), (f, y)], ?_, upd_same, ?_, ?_⟩⟩⟩
  · rw [upd_ne ne.symm, upd_same]
  · rw [upd_ne ne] at nd
    exact nd
  · rw [upd_ne ne] at nd
    refine thrown_at t na nd fun b o e => ?_
    rw [upd_ne (ne_of_none e nd), upd_ne (ne_of_none e na), upd_ne (ne_of_none e nd), upd_ne (ne_of_none e na)]
    exact e
/-! ### the ends of two forms -/
abbrev sChk : Stmt := top 24
theorem scChk : FnScope ["first", "second", "ends", "name", "times", "low", "high"] ["first", "second"] (defScope sChk) := ⟨rfl, rfl, rfl, by decide +kernel, rfl, by decide +kernel, by decide +kernel⟩
/-- a dict of ends: what the last of a name's terms says -/
def ER (H : Hp) (kvs : List (Key × V)) (M : List Tm) : Prop := kvs.length = M.length ∧ ∀ w, (getT M w = none ∧ valV kvs (Sum.inr w : Key) = none) ∨ ∃ x q, getT M w = some x ∧ valV kvs (Sum.inr w : Key) = some (.ref q) ∧ H q = some (.tup [.int x.lo, .int x.hi])
theorem ER.any {H : Hp} {kvs : List (Key × V)} {M : List Tm} (h : ER H kvs M) (w : Str) : (kvs.any fun kv => decide (kv.1 = (Sum.inr w : Key))) = M.any fun y => decide (y.nm = w) := by
  rw [valV_any, Bool.eq_iff_iff, anyT]
  obtain ⟨h1, h2⟩ | ⟨x, q, h1, h2, _⟩ := h.2 w
  · rw [h2]
    exact ⟨fun z => (by cases z), fun z => absurd z (getT_none.mp h1)⟩
  · rw [h2]
    refine ⟨fun _ => ?_, fun _ => rfl⟩
    refine Classical.byContradiction fun z => ?_
    rw [getT_none.mpr z] at h1
    cases h1
theorem ER.put {H : Hp} {kvs : List (Key × V)} {M : List Tm} (h : ER H kvs M) {x : Tm} {q : Addr} (hq : H q = some (.tup [.int x.lo, .int x.hi])) : ER H (putK kvs (Sum.inr x.nm) (.ref q)) (putT M x) := by
  refine ⟨?_, fun w => ?_⟩
  · unfold putK putT
    rw [h.any]
    split
    · rw [List.length_map, List.length_map, h.1]
    · rw [List.length_append, List.length_append, h.1]
      rfl
  · rw [valV_put, getT_put]
    by_cases e : w = x.nm
    · rw [if_pos e, if_pos (congrArg Sum.inr e)]
      exact .inr ⟨x, q, rfl, rfl, hq⟩
    · rw [if_neg e, if_neg fun z => e (Sum.inr.inj z)]
      exact h.2 w
theorem ER.mono {H H' : Hp} {kvs : List (Key × V)} {M : List Tm} (h : ER H kvs M) (k : ∀ t xs, H t = some (.tup xs) → H' t = some (.tup xs)) : ER H' kvs M :=
  ⟨h.1, fun w => (h.2 w).imp id fun ⟨x, q, h1, h2, h3⟩ => ⟨x, q, h1, h2, k _ _ h3⟩⟩
theorem ER.nil {H : Hp} : ER H [] [] := ⟨rfl, fun _ => .inl ⟨rfl, rfl⟩⟩
def foldT (ts : List Tm) : List Tm := ts.foldl putT []
theorem foldT_snoc (ts : List Tm) (x : Tm) : foldT (ts ++ [x]) = putT (foldT ts) x := by
  unfold foldT
  rw [List.foldl_append]
  rfl
theorem foldT_len (ts : List Tm) : (foldT ts).length ≤ ts.length := by
  have h : ∀ (l M : List Tm), (l.foldl putT M).length ≤ M.length + l.length := fun l => by
    induction l with
    | nil => intro M; simp
    | cons x r ih =>
      intro M
      have := ih (putT M x)
      have := @putT_len M x
      rw [List.foldl_cons, List.length_cons]
      omega
  have := h ts []
  simpa [foldT] using this
theorem foldT_self {ts : List Tm} (h : (nms ts).Nodup) : foldT ts = ts := by
  have key : ∀ l M : List Tm, (nms (M ++ l)).Nodup → l.foldl putT M = M ++ l := fun l => by
    induction l with
    | nil => intro M _; simp
    | cons x r ih =>
      intro M hn
      have hx : ¬ x.nm ∈ nms M := fun hm => by
        unfold nms at hn hm
        rw [List.map_append, List.nodup_append] at hn
        exact hn.2.2 _ hm _ (by rw [List.map_cons]; exact List.mem_cons_self) rfl
      have e : putT M x = M ++ [x] := by
        unfold putT
        rw [if_neg fun z => hx (anyT.mp z)]
      rw [List.foldl_cons, e, ih (M ++ [x]) (by rw [List.append_assoc]; exact hn), List.append_assoc]
      rfl
  exact key ts [] h
def enD (lo hi : Int) : PyData := .tuple [.int lo, .int hi]
theorem dp_en {H : Hp} {q : Addr} {lo hi : Int} (h : H q = some (.tup [.int lo, .int hi])) : Dp K H (.ref q) (enD lo hi) := .tup (sql_ofT h) (.cons (.int _) (.cons (.int _) .nil))
theorem sh_en (lo hi : Int) : SeqAt.shaped (enD lo hi) = true := by
  unfold SeqAt.shaped enD
  simp [PyData.canLay0, PyData.canLayAll0, PyData.depth, PyData.depthAll]
theorem eqv_en (a b c d : Int) : PyData.eqv (enD a b) (enD c d) = decide ((a, b) = (c, d)) := by
  unfold enD
  rw [PyData.eqv, PyData.eqvAll, PyData.eqvAll, PyData.eqvAll, PyData.eqv, PyData.eqv, Bool.eq_iff_iff]
  simp
theorem find_take {α : Type} {p : α → Bool} : ∀ {l : List α} {i : Nat} {x : α}, l[i]? = some x → (l.take i).find? p = none → p x = true → l.find? p = some x
  | [], i, x, h, _, _ => by simp at h
  | y :: r, 0, x, h, _, hp => by
    obtain rfl : y = x := Option.some.inj h
    rw [List.find?_cons, hp]
  | y :: r, i + 1, x, h, hn, hp => by
    rw [List.take_succ_cons, List.find?_cons] at hn
    cases e : p y with
    | true =>
      rw [e] at hn
      cases hn
    | false =>
      rw [e] at hn
      rw [List.find?_cons, e]
      exact find_take (by simpa using h) hn hp
theorem find_snoc {α : Type} {p : α → Bool} {l : List α} {i : Nat} {x : α} (h : l[i]? = some x) (hn : (l.take i).find? p = none) (hp : p x = false) : (l.take (i + 1)).find? p = none := by
  rw [List.take_add_one, h, Option.toList_some, List.find?_append, hn]
  simp [hp]
/-- the first name, in the order of us, whose ends differ -/
def unl (ts us : List Tm) : Option Str := (us.find? fun u => (getT ts u.nm).any fun t => decide ((t.lo, t.hi) ≠ (u.lo, u.hi))).map (·.nm)
def spChk (CU : Addr) : Sp := fun vs H Q E => ∃ (a b : Addr) (us ws : List V) (ts vs' : List Tm), vs = [.ref a, .ref b] ∧ H a = some (.tup us) ∧ TAll H us ts ∧ H b = some (.tup ws) ∧ TAll H ws vs' ∧ ts.length ≤ 900 ∧ (nms ts).Nodup ∧ NmsOk ts ∧ NmsOk vs' ∧
  (∀ w, unl ts vs' = some w → Thrown E CU H [("name", .str w)]) ∧ (unl ts vs' = none → ∀ H', Same H H' → Q .non H')
theorem ok_chk (D : Df K mg "_check_ends" sChk ["first", "second"]) (XU : Xc K mg "UnlikeEnds" "UnlikeEnds.__init__" sXUnlikeEnds ["name"] ["self", "name"]) : FnOk P w K mg base (L2N.CX P w) 4 D.f D.fd ["first", "second"] (spChk XU.C) := by
  have F1 : FnOk P w K mg base CX0 1 XU.f XU.fd ["self", "name"] (spX1 K "name") := okX_UnlikeEnds XU.fn
  refine okN D.fn scChk (fun vs H Q E h => ?_) (fun cdv A outer s H vs Q E hr h => ?_)
  · obtain ⟨a, b, us, ws, ts, vs', rfl, _⟩ := h
    rfl
  · obtain ⟨a, b, us, ws, ts, vs', rfl, ha, hA, hb, hB, hsz, hnd, ho1, ho2, kx, k⟩ := h
    have hu := hu_of hr
    have hr2 : Room (1 + 1) _ := hr.mono (by decide)
    refine ⟨_, (pss_cons (ps_setDc (i := 2) (own := [("name", 3), ("times", 4), ("low", 5), ("high", 6)]) (g := (gTup K 4 (gCons (gName 3) (gCons (gName 4) (gCons (gName 5) (gCons (gName 6) gNil)))))) (tt := tYes) rfl scChk.nd rfl rfl (swD_true rfl rfl rfl (by decide +kernel)) (pi_tup (pv 0)) (blkOk_by (N := ["first", "second", "ends", "name", "times", "low", "high"]) (sc := defScope sChk) (by decide +kernel)) (fun _ _ _ _ _ => (pg_tup rfl (pgs_cons (pg_name (i := 3) scChk.nd rfl (Or.inl rfl)) (pgs_cons (pg_name (i := 4) scChk.nd rfl (Or.inl rfl)) (pgs_cons (pg_name (i := 5) scChk.nd rfl (Or.inl rfl)) (pgs_cons (pg_name (i := 6) scChk.nd rfl (Or.inl rfl)) pgs_nil)))))) (fun _ _ _ _ _ => pts_nil) (fun _ _ _ _ _ => (pv 3)) (fun _ _ _ _ _ => (pe_tup (pa_cons (pv 5) (pa_cons (pv 6) pa_nil)))))
      (pss_one (ps_for (passes_of rfl) rfl (pi_tup (pv 1)) (pg_tup rfl (pgs_cons (pg_name (i := 3) scChk.nd rfl (Or.inl rfl)) (pgs_cons (pg_name (i := 4) scChk.nd rfl (Or.inl rfl)) (pgs_cons (pg_name (i := 5) scChk.nd rfl (Or.inl rfl)) (pgs_cons (pg_name (i := 6) scChk.nd rfl (Or.inl rfl)) pgs_nil)))))
      (pss_one (ps_if (PW.pt (pw_and (pt_cmp (pc_din hu (pv 3) (pv 2))) (pw_and1 (pt_cmpR (op_neD hr.units) (pe_dget hu (pv 2) (pv 3) (fun _ _ => rfl)) (pe_tup (pa_cons (pv 5) (pa_cons (pv 6) pa_nil))) (nomark _)))))
      (pss_one (L2N.ps_raise rfl (L2N.takes_of rfl rfl rfl rfl) (pmk_oexN (CX := CX0) XU.ox XU.iC XU.tI F1 hr2 XU.bd .nil (fun _ _ _ _ _ _ _ h => h.elim) (by rfl) XU.gC (pa_cons (pv 3) pa_nil))))
      pss_nil))))), ?_⟩
    have hAl := hA.len
    have hBl := hB.len
    refine ⟨_, rfl, a, rfl, ⟨us, sql_ofT ha⟩, fun D nD => dc_it (walk_tup (K := K) (a := a) (xs := us)) (fun i H2 => ∃ kvs, H2 D = some (.dK kvs) ∧ ER H2 kvs (foldT (ts.take i)) ∧ Same H H2) ⟨[], upd_same, .nil, same_upd nD⟩ (fun i H2 _ ⟨_, _, _, z⟩ => sql_ofT (z _ _ ha)) ?_ ?_⟩
    · rintro i y H2 H3 hi ⟨kvs, hD, hE, sm⟩ ⟨rfl, hy⟩
      obtain ⟨x, q, hx, rfl, hq⟩ := hA.at_ hy
      refine ⟨q, _, rfl, sql_ofT (sm _ _ hq), rfl, _, _, rfl, _, _, rfl, _, _, rfl, _, _, rfl, rfl, rfl, ?_⟩
      refine ⟨_, rfl, _, rfl, _, rfl, (by show 2 ≤ sizeLine; decide), fun z nz => ?_⟩
      have sz := same_upd (o := .tup [V.int x.lo, V.int x.hi]) nz
      have hDz := sz _ _ hD
      have nzD : z ≠ D := (ne_of_none hD nz).symm
      refine ⟨kvs, Sum.inr x.nm, rfl, hDz, ?_, _, upd_same, ?_, ?_⟩
      · rw [hE.1]
        refine small1000 (Nat.le_trans (foldT_len _) ?_)
        rw [List.length_take]
        omega
      · rw [List.take_add_one, hx, Option.toList_some, foldT_snoc]
        refine ((hE.mono fun t xs w => sz _ _ w).put (x := x) (q := z) upd_same).mono fun t xs w => ?_
        rw [upd_ne (ne_of w hDz fun v => nomatch v)]
        exact w
      · intro b' o eb
        rw [upd_ne (ne_of_none eb nD)]
        exact sz _ _ (sm _ _ eb)
    rintro H2 ⟨kvs, hD, hE, sm⟩
    rw [List.take_of_length_le (by omega), foldT_self hnd] at hE
    refine ⟨_, rfl, b, rfl, ⟨ws, sql_ofT (sm _ _ hb)⟩, for_tup (K := K) (a := b) (xs := ws) (fun i σ H3 => ∃ x3 x4 x5 x6, σ = [some (.ref a), some (.ref b), some (.ref D), x3, x4, x5, x6] ∧ Same H2 H3 ∧ (vs'.take i).find? (fun u => (getT ts u.nm).any fun t => decide ((t.lo, t.hi) ≠ (u.lo, u.hi))) = none) ⟨none, none, none, none, rfl, fun _ _ e => e, rfl⟩ (fun i σ H3 _ ⟨_, _, _, _, _, z, _⟩ => sql_ofT (z _ _ (sm _ _ hb))) ?_ ?_⟩
    · rintro i y σ H3 hi ⟨x3, x4, x5, x6, rfl, sm3, hf⟩
      obtain ⟨u, q, hu', rfl, hq⟩ := hB.at_ hi
      refine ⟨q, _, rfl, sql_ofT (sm3 _ _ (sm _ _ hq)), rfl, _, _, rfl, _, _, rfl, _, _, rfl, _, _, rfl, rfl, ?_⟩
      have hE3 := hE.mono (H' := H3) fun t xs w => sm3 _ _ w
      have hD3 := sm3 _ _ hD
      obtain ⟨e1, e2⟩ | ⟨t, qq, e1, e2, e3⟩ := hE3.2 u.nm
      · refine ⟨_, rfl, _, rfl, D, none, rfl, by rw [← e2]; exact DGet.k (k := Sum.inr u.nm) hD3, false, rfl, ?_⟩
        refine iteF' rfl ?_
        exact ⟨_, _, _, _, rfl, sm3, find_snoc hu' hf (by rw [e1]; rfl)⟩
      · refine ⟨_, rfl, _, rfl, D, some (.ref qq), rfl, by rw [← e2]; exact DGet.k (k := Sum.inr u.nm) hD3, true, rfl, ?_⟩
        refine iteT' rfl ?_
        refine ⟨_, rfl, _, rfl, D, .ref qq, rfl, by rw [← e2]; exact DGet.k (k := Sum.inr u.nm) hD3, _, rfl, _, rfl, (by show 2 ≤ sizeLine; decide), fun z nz => ?_⟩
        have sz := same_upd (o := .tup [V.int u.lo, V.int u.hi]) nz
        refine ⟨enD t.lo t.hi, enD u.lo u.hi, dp_en (sz _ _ e3), dp_en upd_same, sh_en _ _, sh_en _ _, _, rfl, ?_⟩
        rw [eqv_en]
        have hp : ((getT ts u.nm).any fun t => decide ((t.lo, t.hi) ≠ (u.lo, u.hi))) = !decide ((t.lo, t.hi) = (u.lo, u.hi)) := by
          rw [e1]
          simp
        refine ite2 (fun e => ?_) (fun e => ?_)
        · have hun : unl ts vs' = some u.nm := by
            unfold unl
            rw [find_take hu' hf (by rw [hp]; exact e)]
            rfl
          exact ⟨_, rfl, read1 XU.ox (XU.no "name" List.mem_cons_self) (((kx _ hun).same sm).same (sm3.trans sz))⟩
        · exact ⟨_, _, _, _, rfl, sm3.trans sz, find_snoc hu' hf (by rw [hp]; simpa using e)⟩
    · rintro σ H3 ⟨x3, x4, x5, x6, rfl, sm3, hf⟩
      rw [List.take_of_length_le (by omega)] at hf
      refine k ?_ H3 (sm.trans sm3)
      unfold unl
      rw [hf]
      rfl
end
end DO

namespace DO
open PySem PySem.Spec PyProof.Rows L2
section
variable {P : Program} {w : World} {K : PySem.W.Frag} {mg : Str → Option Value} {base : Heap}
/-! ### the terms of two forms together -/
def kOf (M : List Tm) (w : Str) : Int := match getT M w with
  | some x => x.k
  | none => 0
def addP (M : List Tm) (x : Tm) : List Tm := putT M ⟨x.nm, kOf M x.nm + x.k, x.lo, x.hi⟩
def addF (all : List Tm) : List Tm := all.foldl addP []
def addS (ts us : List Tm) : List Tm := (srt (addF (ts ++ us))).filter fun x => decide (x.k ≠ 0)
theorem addF_snoc (l : List Tm) (x : Tm) : addF (l ++ [x]) = addP (addF l) x := by
  unfold addF
  rw [List.foldl_append]
  rfl
theorem addF_inv (l : List Tm) : (nms (addF l)).Nodup ∧ (addF l).length ≤ l.length := by
  have h : ∀ (l M : List Tm), (nms M).Nodup → (nms (l.foldl addP M)).Nodup ∧ (l.foldl addP M).length ≤ M.length + l.length := fun l => by
    induction l with
    | nil => intro M h; exact ⟨h, by simp⟩
    | cons x r ih =>
      intro M h
      obtain ⟨h1, h2⟩ := ih (addP M x) (putT_nd h)
      have := @putT_len M ⟨x.nm, kOf M x.nm + x.k, x.lo, x.hi⟩
      refine ⟨h1, ?_⟩
      rw [List.foldl_cons, List.length_cons]
      unfold addP at h2 ⊢
      omega
  have := h l [] List.nodup_nil
  simpa [addF] using this
/-- the dict of the sums -/
def SD (M : List Tm) : List (Key × V) := M.map fun x => ((Sum.inr x.nm : Key), V.int x.k)
theorem SD_any (M : List Tm) (w : Str) : ((SD M).any fun kv => decide (kv.1 = (Sum.inr w : Key))) = M.any fun y => decide (y.nm = w) := by
  unfold SD
  rw [List.any_map]
  congr 1
  funext x
  show decide ((Sum.inr x.nm : Key) = Sum.inr w) = _
  by_cases e : x.nm = w
  · rw [decide_eq_true e, decide_eq_true (congrArg Sum.inr e)]
  · rw [decide_eq_false e, decide_eq_false fun z => e (Sum.inr.inj z)]
theorem SD_put (M : List Tm) (x : Tm) : putK (SD M) (Sum.inr x.nm) (.int x.k) = SD (putT M x) := by
  unfold putK putT
  rw [SD_any]
  split
  · unfold SD
    rw [List.map_map, List.map_map]
    apply List.map_congr_left
    intro y _
    show (if (Sum.inr y.nm : Key) = Sum.inr x.nm then _ else _) = _
    by_cases e : y.nm = x.nm
    · simp [e]
    · have h : ¬ (Sum.inr y.nm : Key) = Sum.inr x.nm := fun z => e (Sum.inr.inj z)
      simp [e, h]
  · unfold SD
    rw [List.map_append]
    rfl
theorem SD_get (M : List Tm) (w : Str) : valV (SD M) (Sum.inr w : Key) = (getT M w).map fun x => V.int x.k := by
  unfold valV SD getT
  rw [List.find?_map]
  have e : ((fun kv : Key × V => decide (kv.1 = Sum.inr w)) ∘ fun x : Tm => ((Sum.inr x.nm : Key), V.int x.k)) = fun x => decide (x.nm = w) := by
    funext x
    show decide ((Sum.inr x.nm : Key) = Sum.inr w) = _
    by_cases e : x.nm = w
    · rw [decide_eq_true e, decide_eq_true (congrArg Sum.inr e)]
    · rw [decide_eq_false e, decide_eq_false fun z => e (Sum.inr.inj z)]
  rw [e, Option.map_map]
  rfl
theorem SD_kOf (M : List Tm) (w : Str) : (valV (SD M) (Sum.inr w : Key)).getD (.int 0) = .int (kOf M w) := by
  rw [SD_get]
  unfold kOf
  cases getT M w <;> rfl
theorem SD_len (M : List Tm) : (SD M).length = M.length := by
  unfold SD
  rw [List.length_map]
theorem SD_at {M : List Tm} {i : Nat} {kk : Key} {vv : V} (h : (SD M)[i]? = some (kk, vv)) : ∃ x, M[i]? = some x ∧ kk = Sum.inr x.nm := by
  unfold SD at h
  rw [List.getElem?_map] at h
  cases e : M[i]? with
  | none =>
    rw [e] at h
    cases h
  | some x =>
    rw [e] at h
    exact ⟨x, rfl, (congrArg Prod.fst (Option.some.inj h)).symm⟩
abbrev sAdded : Stmt := top 25
theorem scAdded : FnScope ["first", "second", "sums", "ends", "name", "times", "low", "high", "names", "key"] ["first", "second"] (defScope sAdded) := ⟨rfl, rfl, rfl, by decide +kernel, rfl, by decide +kernel, by decide +kernel⟩
def spAdded : Sp := fun vs H Q _ => ∃ (a b : Addr) (us ws : List V) (ts vs' : List Tm), vs = [.ref a, .ref b] ∧ H a = some (.tup us) ∧ TAll H us ts ∧ H b = some (.tup ws) ∧ TAll H ws vs' ∧ ts.length + vs'.length ≤ 900 ∧
  ∀ l xs H', Same H H' → H l = none → H' l = some (.lst xs) → TAll H' xs (addS ts vs') → Q (.ref l) H'
theorem ok_added (D : Df K mg "_added" sAdded ["first", "second"]) (mso : mg "sorted" = none) (mst : mg "str" = none) : FnOk P w K mg base CX0 1 D.f D.fd ["first", "second"] spAdded := by
  refine D.fn.ok scAdded (fun vs H Q E h => ?_) (fun cdv A outer s H vs Q E hr h => ?_)
  · obtain ⟨a, b, us, ws, ts, vs', rfl, _⟩ := h
    rfl
  · obtain ⟨a, b, us, ws, ts, vs', rfl, ha, hA, hb, hB, hsz, k⟩ := h
    have hu := hu_of hr
    have hu2 : (A.deeper (envOfC "_added" (defScope sAdded) s.heap.objs.size D.f cdv)).units + 2 < cLine := Nat.lt_of_le_of_lt (Nat.add_le_add_left (by decide : 2 ≤ 64) _) hr.units
    refine ⟨_, (pss_cons (ps_set (i := 2) scAdded.nd rfl (.inr rfl) pe_dnewK)
      (pss_cons (ps_set (i := 3) scAdded.nd rfl (.inr rfl) pe_dnewK)
      (pss_cons (ps_for PassesOwn.never rfl (pi_tup (pe_op (show OpR _ _ (rCatA K) from op_catA) (pv 0) (pv 1))) (pg_tup rfl (pgs_cons (pg_name (i := 4) scAdded.nd rfl (Or.inl rfl)) (pgs_cons (pg_name (i := 5) scAdded.nd rfl (Or.inl rfl)) (pgs_cons (pg_name (i := 6) scAdded.nd rfl (Or.inl rfl)) (pgs_cons (pg_name (i := 7) scAdded.nd rfl (Or.inl rfl)) pgs_nil)))))
      (pss_cons (ps_dput hu (pv 2) (pv 4) (pe_op op_addL (pe_dget2 hu (pv 2) (pv 4) pe_int ⟨rfl, rfl, rfl, rfl⟩) (pv 5)) rfl)
      (pss_one (ps_dput hu (pv 3) (pv 4) (pe_tup (pa_cons (pv 6) (pa_cons (pv 7) pa_nil))) rfl))))
      (pss_cons (ps_set (i := 8) scAdded.nd rfl (.inl rfl) (pe_callB (cr_sortedT hu2) (by rfl) mso (by decide +kernel) (pa_cons (pe_lock (pe_lc (own := [("key", 9)]) (g := gName 9) (tt := tYes) rfl scAdded.nd (pi_keys (pv 2)) (blkOk_by (N := ["first", "second", "sums", "ends", "name", "times", "low", "high", "names", "key"]) (sc := defScope sAdded) (by decide +kernel)) (fun _ _ _ _ _ => pg_name (i := 9) scAdded.nd rfl (Or.inl rfl)) (fun _ _ _ _ _ => pts_nil) (fun _ _ _ _ _ => (pe_callTy SkE.call_str_str (by rfl) mst (by decide +kernel) (pa_cons (pv 9) pa_nil))))) pa_nil)))
      (pss_one (ps_ret (pe_lc (own := [("key", 9)]) (g := gName 9) (tt := _) rfl scAdded.nd (pi_list (pv 8)) (blkOk_by (N := ["first", "second", "sums", "ends", "name", "times", "low", "high", "names", "key"]) (sc := defScope sAdded) (by decide +kernel)) (fun _ _ _ _ _ => pg_name (i := 9) scAdded.nd rfl (Or.inl rfl)) (fun _ _ _ _ _ => pts_one (pt_cmpR op_ne (pe_dget hu (pv 2) (pv 9) (fun _ _ => rfl)) pe_int (nomark _))) (fun _ _ _ _ _ => (pe_op (show OpR _ _ (rCatT K) from op_catT) (pe_tup (pa_cons (pv 9) (pa_cons (pe_dget hu (pv 2) (pv 9) (fun _ _ => rfl)) pa_nil))) (pe_dget hu (pv 3) (pv 9) (fun _ _ => rfl))))))))))), ?_⟩
    intro S nS E2 nE
    have s1 := same_upd (o := .dK []) nS
    have s2 := same_upd (o := .dK []) nE
    have nSE : S ≠ E2 := ne_of_none upd_same nE
    have nE0 : H E2 = none := s1.free nE
    have hS0 : (upd (upd H S (.dK [])) E2 (.dK [])) S = some (.dK []) := by rw [upd_ne nSE, upd_same]
    have hE0 : (upd (upd H S (.dK [])) E2 (.dK [])) E2 = some (.dK []) := upd_same
    have s12 := s1.trans s2
    generalize (upd (upd H S (.dK [])) E2 (.dK [])) = H2 at hS0 hE0 s12
    have hAl := hA.len
    unfold addS at k
    have hBl := hB.len
    have hA2 := hA.mono (H' := H2) fun t xs w => s12 _ _ w
    have hB2 := hB.mono (H' := H2) fun t xs w => s12 _ _ w
    have hall : (us ++ ws).length = (ts ++ vs').length := by rw [List.length_append, List.length_append, hAl, hBl]
    have hal9 : (ts ++ vs').length ≤ 900 := by rw [List.length_append]; exact hsz
    refine ⟨_, rfl, _, rfl, a, b, us, ws, rfl, rfl, sql_ofT (s12 _ _ ha), sql_ofT (s12 _ _ hb), sz16 (by omega), fun e => ?_, fun e1 e2 => ?_, fun _ _ c nc => ?_⟩
    · have hc3 : H2 b = some (.tup (us ++ ws)) := by rw [e]; exact s12 _ _ hb
      have hT3 : TAll H2 (us ++ ws) (ts ++ vs') := hA2.app hB2
      have hS3 := hS0
      have hE3 := hE0
      have s23 : Same H2 H2 := fun _ _ e => e
      have hSc : b ≠ S := ne_of hc3 hS3 fun z => nomatch z
      have hEc : b ≠ E2 := ne_of hc3 hE3 fun z => nomatch z
      generalize us ++ ws = aus at hc3 hT3 hall
      generalize ts ++ vs' = all at hT3 hall hal9 k
      refine ⟨b, rfl, ⟨_, sql_ofT hc3⟩, for_tup (K := K) (a := b) (xs := aus) (fun i σ H4 => ∃ x4 x5 x6 x7 kvs, σ = [some (.ref a), some (.ref b), some (.ref S), some (.ref E2), x4, x5, x6, x7, none, none] ∧ H4 S = some (.dK (SD (addF (all.take i)))) ∧ H4 E2 = some (.dK kvs) ∧ ER H4 kvs (addF (all.take i)) ∧ (∀ b o, H2 b = some o → b ≠ S → b ≠ E2 → H4 b = some o))
        ⟨none, none, none, none, [], rfl, hS3, hE3, .nil, fun _ _ e _ _ => e⟩ (fun i σ H4 _ ⟨_, _, _, _, _, _, _, _, _, z⟩ => sql_ofT (z _ _ hc3 hSc hEc)) ?_ ?_⟩
      · rintro i y σ H4 hi ⟨x4, x5, x6, x7, kvs, rfl, hS, hE, hR, kp⟩
        have hil : i < aus.length := (List.getElem?_eq_some_iff.mp hi).1
        obtain ⟨x, q, hx, rfl, hq⟩ := hT3.at_ hi
        have hq4 := kp _ _ hq (ne_of hq hS3 fun z => nomatch z) (ne_of hq hE3 fun z => nomatch z)
        obtain ⟨inv1, inv2⟩ := addF_inv (all.take i)
        rw [List.length_take] at inv2
        refine ⟨q, _, rfl, sql_ofT hq4, rfl, _, _, rfl, _, _, rfl, _, _, rfl, _, _, rfl, rfl, ?_⟩
        refine ⟨_, rfl, S, rfl, .inl ⟨_, .inl hS⟩, _, rfl, _, DGet.k (k := Sum.inr x.nm) hS, ?_⟩
        rw [SD_kOf]
        refine ⟨_, rfl, _, _, rfl, rfl, fun r er => ⟨_, rfl, _, rfl, S, _, rfl, DPut.k (k := Sum.inr x.nm) hS (by rw [SD_len]; exact small1000 (by omega)), ?_⟩⟩
        have hS5 : (upd H4 S (.dK (putK (SD (addF (all.take i))) (Sum.inr x.nm) (.int r)))) S = some (.dK (SD (addF (all.take (i + 1))))) := by
          rw [upd_same, List.take_add_one, hx, Option.toList_some, addF_snoc, addP, ← er]
          exact congrArg (fun z => some (HO.dK z)) (SD_put (addF (all.take i)) ⟨x.nm, r, x.lo, x.hi⟩)
        have hE5 : (upd H4 S (.dK (putK (SD (addF (all.take i))) (Sum.inr x.nm) (.int r)))) E2 = some (.dK kvs) := by rw [upd_ne nSE.symm]; exact hE
        have t5 : ∀ t xs, H4 t = some (.tup xs) → (upd H4 S (.dK (putK (SD (addF (all.take i))) (Sum.inr x.nm) (.int r)))) t = some (.tup xs) := fun t xs w => by
          rw [upd_ne (ne_of w hS fun z => nomatch z)]
          exact w
        have k5 : ∀ b o, H4 b = some o → b ≠ S → (upd H4 S (.dK (putK (SD (addF (all.take i))) (Sum.inr x.nm) (.int r)))) b = some o := fun b o w nb => by
          rw [upd_ne nb]
          exact w
        generalize (upd H4 S (.dK (putK (SD (addF (all.take i))) (Sum.inr x.nm) (.int r)))) = H5 at hS5 hE5 t5 k5
        refine ⟨_, rfl, _, rfl, (by show 2 ≤ sizeLine; decide), fun z nz => ?_⟩
        have sz := same_upd (o := .tup [V.int x.lo, V.int x.hi]) nz
        have hEz := sz _ _ hE5
        refine ⟨_, rfl, _, rfl, E2, _, rfl, DPut.k (k := Sum.inr x.nm) hEz (by rw [hR.1]; exact small1000 (by omega)), ?_⟩
        refine ⟨_, _, _, _, _, rfl, ?_, upd_same, ?_, fun b' o eb n1 n2 => ?_⟩
        · rw [upd_ne nSE]
          exact sz _ _ hS5
        · rw [List.take_add_one, hx, Option.toList_some, addF_snoc, addP]
          refine ((hR.mono fun t xs w => sz _ _ (t5 _ _ w)).put (x := ⟨x.nm, kOf (addF (all.take i)) x.nm + x.k, x.lo, x.hi⟩) (q := z) upd_same).mono fun t xs w => ?_
          rw [upd_ne (ne_of w hEz fun v => nomatch v)]
          exact w
        · rw [upd_ne n2]
          exact sz _ _ (k5 _ _ (kp _ _ eb n1 n2) n1)
      · rintro σ H4 ⟨x4, x5, x6, x7, kvs, rfl, hS, hE, hR, kp⟩
        rw [List.take_of_length_le (by omega)] at hS hR
        obtain ⟨nd, inv2⟩ := addF_inv all
        have s4 : Same H H4 := fun b' o eb => kp _ _ (s23 _ _ (s12 _ _ eb)) (ne_of_none eb nS) (ne_of_none eb nE0)
        clear hS3 hE3 hT3 hc3 kp s23 hSc hEc
        generalize addF all = M at hS hR nd inv2 k
        -- the names in order
        refine ⟨S, .dK (SD M), hS, trivial, fun od => ?_⟩
        have hfz : (upd H4 S (.frz od (.dK (SD M)))) S = some (.frz od (.dK (SD M))) := upd_same
        refine ⟨_, rfl, S, od, rfl, .inl ⟨SD M, hfz, fun B nB => ?_⟩⟩
        have hBd : S ≠ B := ne_of_none hfz nB
        refine lc_it walk_keys (fun i H5 => H5 = upd (upd H4 S (.frz od (.dK (SD M)))) B (.lst ((KeyL M).take i))) rfl (fun i H5 _ e => by rw [e, upd_ne hBd]; exact hfz) ?_ ?_
        · rintro i x H5 H6 hi rfl ⟨rfl, kk, vv, hk, rfl⟩
          obtain ⟨y, hy, rfl⟩ := SD_at hk
          have hc' : (KeyL M)[i]? = some (.str y.nm) := by
            unfold KeyL nms
            rw [List.getElem?_map, List.getElem?_map, hy]
            rfl
          refine ⟨rfl, ?_⟩
          refine ⟨_, rfl, y.nm, rfl, _, upd_same, ?_, ?_⟩
          · rw [List.length_take]
            have lk : (KeyL M).length = M.length := by
              unfold KeyL nms
              rw [List.length_map, List.length_map]
            exact small1000 (by omega)
          · rw [upd_upd, List.take_add_one, hc']
            rfl
        rintro H5 rfl
        have nB' : H4 B = none := by
          rw [upd_ne hBd.symm] at nB
          exact nB
        have lk : (KeyL M).length = M.length := by
          unfold KeyL nms
          rw [List.length_map, List.length_map]
        have ls := SD_len M
        rw [List.take_of_length_le (by omega)]
        refine ⟨by rw [upd_ne hBd]; exact hfz, ?_⟩
        have hB' : (upd (upd (upd H4 S (.frz od (.dK (SD M)))) B (.lst (KeyL M))) S (.dK (SD M))) B = some (.lst (KeyL M)) := by rw [upd_ne hBd.symm, upd_same]
        have sm : Same H4 (upd (upd (upd H4 S (.frz od (.dK (SD M)))) B (.lst (KeyL M))) S (.dK (SD M))) := fun b o e => by
          have h2 := ne_of_none e nB'
          by_cases h1 : b = S
          · subst h1
            rw [hS] at e
            rw [upd_same]
            exact e
          · rw [upd_ne h1, upd_ne h2, upd_ne h1]
            exact e
        generalize (upd (upd (upd H4 S (.frz od (.dK (SD M)))) B (.lst (KeyL M))) S (.dK (SD M))) = H5 at hB' sm
        refine ⟨B, nms M, rfl, sql_of hB', fun ol no => ?_⟩
        have s5 := same_upd (o := .lst (((nms M).mergeSort leT).map V.str)) no
        have hO : (upd H5 ol (.lst (((nms M).mergeSort leT).map V.str))) ol = some (.lst ((sortS (nms M)).map V.str)) := upd_same
        have sm5 := sm.trans s5
        generalize (upd H5 ol (.lst (((nms M).mergeSort leT).map V.str))) = H6 at hO sm5
        have ns : nms (srt M) = sortS (nms M) := srt_nms M
        have sl : (srt M).length = (sortS (nms M)).length := by
          rw [← ns]
          unfold nms
          rw [List.length_map]
        have sn : (sortS (nms M)).length = M.length := by
          rw [(sortS_perm _).length_eq]
          unfold nms
          rw [List.length_map]
        have hS6 := sm5 _ _ hS
        have hE6 := sm5 _ _ hE
        have hR6 := hR.mono (H' := H6) fun t xs w => sm5 _ _ w
        refine ⟨_, rfl, ol, rfl, ⟨_, sql_of hO⟩, fun D nD => lc_list (K := K) (a := ol) (xs := (sortS (nms M)).map V.str) (fun i H7 => ∃ xs, H7 D = some (.lst xs) ∧ TAll H7 xs (((srt M).take i).filter fun x => decide (x.k ≠ 0)) ∧ Same H6 H7) ⟨[], upd_same, .nil, same_upd nD⟩ (fun i H7 _ ⟨_, _, _, z⟩ => sql_of (z _ _ hO)) ?_ ?_⟩
        · rintro i y H7 hi ⟨xs, hD, hT, sm2⟩
          have hil : i < ((sortS (nms M)).map V.str).length := (List.getElem?_eq_some_iff.mp hi).1
          rw [List.length_map] at hil
          have hx : (srt M)[i]? = some (srt M)[i] := List.getElem?_eq_getElem (by omega)
          generalize (srt M)[i] = x at hx
          have hy : y = .str x.nm := by
            rw [← ns] at hi
            unfold nms at hi
            rw [List.getElem?_map, List.getElem?_map, hx] at hi
            exact (Option.some.inj hi).symm
          subst hy
          have hxM : getT M x.nm = some x := getT_mem nd ((mem_srt nd).mp (List.mem_of_getElem? hx))
          have hS7 := sm2 _ _ hS6
          have hE7 := sm2 _ _ hE6
          have gS : valV (SD M) (Sum.inr x.nm : Key) = some (.int x.k) := by
            rw [SD_get, hxM]
            rfl
          obtain ⟨e, _⟩ | ⟨x', q, e1, e2, e3⟩ := (hR6.mono (H' := H7) fun t xs w => sm2 _ _ w).2 x.nm
          · rw [e] at hxM
            cases hxM
          obtain rfl : x' = x := Option.some.inj (e1.symm.trans hxM)
          have tk : (srt M).take (i + 1) = (srt M).take i ++ [x'] := by rw [List.take_add_one, hx, Option.toList_some]
          refine ⟨rfl, ⟨_, rfl, _, rfl, S, .int x'.k, rfl, by rw [← gS]; exact DGet.k (k := Sum.inr x'.nm) hS7, rfl, _, rfl, ?_⟩⟩
          refine ite2 (fun e => ?_) (fun e => ?_)
          · have ek : x'.k ≠ 0 := fun z => by
              rw [z] at e
              simp at e
            refine ⟨_, rfl, _, rfl, _, rfl, S, .int x'.k, rfl, by rw [← gS]; exact DGet.k (k := Sum.inr x'.nm) hS7, (by show 2 ≤ sizeLine; decide), fun z nz => ?_⟩
            have sz := same_upd (o := .tup [V.str x'.nm, V.int x'.k]) nz
            refine ⟨_, rfl, _, rfl, E2, .ref q, rfl, by rw [← e2]; exact DGet.k (k := Sum.inr x'.nm) (sz _ _ hE7), z, q, _, _, rfl, rfl, sql_ofT upd_same, sql_ofT (sz _ _ e3), by simp, by show 2 + 2 ≤ sizeLine; decide, fun z => absurd z (by simp), fun _ p np => ?_⟩
            have sp := same_upd (o := .tup ([V.str x'.nm, V.int x'.k] ++ [V.int x'.lo, V.int x'.hi])) np
            have hDp := sp _ _ (sz _ _ hD)
            have npq : p ≠ D := (ne_of_none (sz _ _ hD) np).symm
            refine ⟨xs, hDp, ?_, xs ++ [.ref p], upd_same, ?_, ?_⟩
            · rw [hT.len]
              refine small1000 (Nat.le_trans (List.length_filter_le _ _) ?_)
              rw [List.length_take]
              omega
            · rw [tk, List.filter_append]
              have ef : [x'].filter (fun x => decide (x.k ≠ 0)) = [x'] := by simp [ek]
              rw [ef]
              refine TAll.app (hT.mono fun t xs w => ?_) (.cons x' p ?_ .nil)
              · have z2 := sp _ _ (sz _ _ w)
                rw [upd_ne (ne_of z2 hDp fun v => nomatch v)]
                exact z2
              · rw [upd_ne npq, upd_same]
                rfl
            · intro b' o eb
              rw [upd_ne (ne_of_none eb nD)]
              exact sp _ _ (sz _ _ (sm2 _ _ eb))
          · have ek : x'.k = 0 := by
              refine Classical.byContradiction fun z => e ?_
              have : ¬ (V.int x'.k = V.int 0) := fun w => z (V.int.inj w)
              simp [this]
            refine ⟨xs, hD, ?_, sm2⟩
            rw [tk, List.filter_append]
            have ef : [x'].filter (fun x => decide (x.k ≠ 0)) = [] := by simp [ek]
            rw [ef, List.append_nil]
            exact hT
        · rintro H7 ⟨xs, hD, hT, sm2⟩
          rw [List.length_map, List.take_of_length_le (by omega)] at hT
          have s7 : Same H H7 := s4.trans (sm5.trans sm2)
          refine k D xs H7 s7 ?_ hD hT
          exact (s4.trans sm5).free nD
    · have hc3 : H2 a = some (.tup (us ++ ws)) := by rw [e2, List.append_nil]; exact s12 _ _ ha
      have hT3 : TAll H2 (us ++ ws) (ts ++ vs') := hA2.app hB2
      have hS3 := hS0
      have hE3 := hE0
      have s23 : Same H2 H2 := fun _ _ e => e
      have hSc : a ≠ S := ne_of hc3 hS3 fun z => nomatch z
      have hEc : a ≠ E2 := ne_of hc3 hE3 fun z => nomatch z
      generalize us ++ ws = aus at hc3 hT3 hall
      generalize ts ++ vs' = all at hT3 hall hal9 k
      refine ⟨a, rfl, ⟨_, sql_ofT hc3⟩, for_tup (K := K) (a := a) (xs := aus) (fun i σ H4 => ∃ x4 x5 x6 x7 kvs, σ = [some (.ref a), some (.ref b), some (.ref S), some (.ref E2), x4, x5, x6, x7, none, none] ∧ H4 S = some (.dK (SD (addF (all.take i)))) ∧ H4 E2 = some (.dK kvs) ∧ ER H4 kvs (addF (all.take i)) ∧ (∀ b o, H2 b = some o → b ≠ S → b ≠ E2 → H4 b = some o))
        ⟨none, none, none, none, [], rfl, hS3, hE3, .nil, fun _ _ e _ _ => e⟩ (fun i σ H4 _ ⟨_, _, _, _, _, _, _, _, _, z⟩ => sql_ofT (z _ _ hc3 hSc hEc)) ?_ ?_⟩
      · rintro i y σ H4 hi ⟨x4, x5, x6, x7, kvs, rfl, hS, hE, hR, kp⟩
        have hil : i < aus.length := (List.getElem?_eq_some_iff.mp hi).1
        obtain ⟨x, q, hx, rfl, hq⟩ := hT3.at_ hi
        have hq4 := kp _ _ hq (ne_of hq hS3 fun z => nomatch z) (ne_of hq hE3 fun z => nomatch z)
        obtain ⟨inv1, inv2⟩ := addF_inv (all.take i)
        rw [List.length_take] at inv2
        refine ⟨q, _, rfl, sql_ofT hq4, rfl, _, _, rfl, _, _, rfl, _, _, rfl, _, _, rfl, rfl, ?_⟩
        refine ⟨_, rfl, S, rfl, .inl ⟨_, .inl hS⟩, _, rfl, _, DGet.k (k := Sum.inr x.nm) hS, ?_⟩
        rw [SD_kOf]
        refine ⟨_, rfl, _, _, rfl, rfl, fun r er => ⟨_, rfl, _, rfl, S, _, rfl, DPut.k (k := Sum.inr x.nm) hS (by rw [SD_len]; exact small1000 (by omega)), ?_⟩⟩
        have hS5 : (upd H4 S (.dK (putK (SD (addF (all.take i))) (Sum.inr x.nm) (.int r)))) S = some (.dK (SD (addF (all.take (i + 1))))) := by
          rw [upd_same, List.take_add_one, hx, Option.toList_some, addF_snoc, addP, ← er]
          exact congrArg (fun z => some (HO.dK z)) (SD_put (addF (all.take i)) ⟨x.nm, r, x.lo, x.hi⟩)
        have hE5 : (upd H4 S (.dK (putK (SD (addF (all.take i))) (Sum.inr x.nm) (.int r)))) E2 = some (.dK kvs) := by rw [upd_ne nSE.symm]; exact hE
        have t5 : ∀ t xs, H4 t = some (.tup xs) → (upd H4 S (.dK (putK (SD (addF (all.take i))) (Sum.inr x.nm) (.int r)))) t = some (.tup xs) := fun t xs w => by
          rw [upd_ne (ne_of w hS fun z => nomatch z)]
          exact w
        have k5 : ∀ b o, H4 b = some o → b ≠ S → (upd H4 S (.dK (putK (SD (addF (all.take i))) (Sum.inr x.nm) (.int r)))) b = some o := fun b o w nb => by
          rw [upd_ne nb]
          exact w
        generalize (upd H4 S (.dK (putK (SD (addF (all.take i))) (Sum.inr x.nm) (.int r)))) = H5 at hS5 hE5 t5 k5
        refine ⟨_, rfl, _, rfl, (by show 2 ≤ sizeLine; decide), fun z nz => ?_⟩
        have sz := same_upd (o := .tup [V.int x.lo, V.int x.hi]) nz
        have hEz := sz _ _ hE5
        refine ⟨_, rfl, _, rfl, E2, _, rfl, DPut.k (k := Sum.inr x.nm) hEz (by rw [hR.1]; exact small1000 (by omega)), ?_⟩
        refine ⟨_, _, _, _, _, rfl, ?_, upd_same, ?_, fun b' o eb n1 n2 => ?_⟩
        · rw [upd_ne nSE]
          exact sz _ _ hS5
        · rw [List.take_add_one, hx, Option.toList_some, addF_snoc, addP]
          refine ((hR.mono fun t xs w => sz _ _ (t5 _ _ w)).put (x := ⟨x.nm, kOf (addF (all.take i)) x.nm + x.k, x.lo, x.hi⟩) (q := z) upd_same).mono fun t xs w => ?_
          rw [upd_ne (ne_of w hEz fun v => nomatch v)]
          exact w
        · rw [upd_ne n2]
          exact sz _ _ (k5 _ _ (kp _ _ eb n1 n2) n1)
      · rintro σ H4 ⟨x4, x5, x6, x7, kvs, rfl, hS, hE, hR, kp⟩
        rw [List.take_of_length_le (by omega)] at hS hR
        obtain ⟨nd, inv2⟩ := addF_inv all
        have s4 : Same H H4 := fun b' o eb => kp _ _ (s23 _ _ (s12 _ _ eb)) (ne_of_none eb nS) (ne_of_none eb nE0)
        clear hS3 hE3 hT3 hc3 kp s23 hSc hEc
        generalize addF all = M at hS hR nd inv2 k
        -- the names in order
        refine ⟨S, .dK (SD M), hS, trivial, fun od => ?_⟩
        have hfz : (upd H4 S (.frz od (.dK (SD M)))) S = some (.frz od (.dK (SD M))) := upd_same
        refine ⟨_, rfl, S, od, rfl, .inl ⟨SD M, hfz, fun B nB => ?_⟩⟩
        have hBd : S ≠ B := ne_of_none hfz nB
        refine lc_it walk_keys (fun i H5 => H5 = upd (upd H4 S (.frz od (.dK (SD M)))) B (.lst ((KeyL M).take i))) rfl (fun i H5 _ e => by rw [e, upd_ne hBd]; exact hfz) ?_ ?_
        · rintro i x H5 H6 hi rfl ⟨rfl, kk, vv, hk, rfl⟩
          obtain ⟨y, hy, rfl⟩ := SD_at hk
          have hc' : (KeyL M)[i]? = some (.str y.nm) := by
            unfold KeyL nms
            rw [List.getElem?_map, List.getElem?_map, hy]
            rfl
          refine ⟨rfl, ?_⟩
          refine ⟨_, rfl, y.nm, rfl, _, upd_same, ?_, ?_⟩
          · rw [List.length_take]
            have lk : (KeyL M).length = M.length := by
              unfold KeyL nms
              rw [List.length_map, List.length_map]
            exact small1000 (by omega)
          · rw [upd_upd, List.take_add_one, hc']
            rfl
        rintro H5 rfl
        have nB' : H4 B = none := by
          rw [upd_ne hBd.symm] at nB
          exact nB
        have lk : (KeyL M).length = M.length := by
          unfold KeyL nms
          rw [List.length_map, List.length_map]
        have ls := SD_len M
        rw [List.take_of_length_le (by omega)]
        refine ⟨by rw [upd_ne hBd]; exact hfz, ?_⟩
        have hB' : (upd (upd (upd H4 S (.frz od (.dK (SD M)))) B (.lst (KeyL M))) S (.dK (SD M))) B = some (.lst (KeyL M)) := by rw [upd_ne hBd.symm, upd_same]
        have sm : Same H4 (upd (upd (upd H4 S (.frz od (.dK (SD M)))) B (.lst (KeyL M))) S (.dK (SD M))) := fun b o e => by
          have h2 := ne_of_none e nB'
          by_cases h1 : b = S
          · subst h1
            rw [hS] at e
            rw [upd_same]
            exact e
          · rw [upd_ne h1, upd_ne h2, upd_ne h1]
            exact e
        generalize (upd (upd (upd H4 S (.frz od (.dK (SD M)))) B (.lst (KeyL M))) S (.dK (SD M))) = H5 at hB' sm
        refine ⟨B, nms M, rfl, sql_of hB', fun ol no => ?_⟩
        have s5 := same_upd (o := .lst (((nms M).mergeSort leT).map V.str)) no
        have hO : (upd H5 ol (.lst (((nms M).mergeSort leT).map V.str))) ol = some (.lst ((sortS (nms M)).map V.str)) := upd_same
        have sm5 := sm.trans s5
        generalize (upd H5 ol (.lst (((nms M).mergeSort leT).map V.str))) = H6 at hO sm5
        have ns : nms (srt M) = sortS (nms M) := srt_nms M
        have sl : (srt M).length = (sortS (nms M)).length := by
          rw [← ns]
          unfold nms
          rw [List.length_map]
        have sn : (sortS (nms M)).length = M.length := by
          rw [(sortS_perm _).length_eq]
          unfold nms
          rw [List.length_map]
        have hS6 := sm5 _ _ hS
        have hE6 := sm5 _ _ hE
        have hR6 := hR.mono (H' := H6) fun t xs w => sm5 _ _ w
        refine ⟨_, rfl, ol, rfl, ⟨_, sql_of hO⟩, fun D nD => lc_list (K := K) (a := ol) (xs := (sortS (nms M)).map V.str) (fun i H7 => ∃ xs, H7 D = some (.lst xs) ∧ TAll H7 xs (((srt M).take i).filter fun x => decide (x.k ≠ 0)) ∧ Same H6 H7) ⟨[], upd_same, .nil, same_upd nD⟩ (fun i H7 _ ⟨_, _, _, z⟩ => sql_of (z _ _ hO)) ?_ ?_⟩
        · rintro i y H7 hi ⟨xs, hD, hT, sm2⟩
          have hil : i < ((sortS (nms M)).map V.str).length := (List.getElem?_eq_some_iff.mp hi).1
          rw [List.length_map] at hil
          have hx : (srt M)[i]? = some (srt M)[i] := List.getElem?_eq_getElem (by omega)
          generalize (srt M)[i] = x at hx
          have hy : y = .str x.nm := by
            rw [← ns] at hi
            unfold nms at hi
            rw [List.getElem?_map, List.getElem?_map, hx] at hi
            exact (Option.some.inj hi).symm
          subst hy
          have hxM : getT M x.nm = some x := getT_mem nd ((mem_srt nd).mp (List.mem_of_getElem? hx))
          have hS7 := sm2 _ _ hS6
          have hE7 := sm2 _ _ hE6
          have gS : valV (SD M) (Sum.inr x.nm : Key) = some (.int x.k) := by
            rw [SD_get, hxM]
            rfl
          obtain ⟨e, _⟩ | ⟨x', q, e1, e2, e3⟩ := (hR6.mono (H' := H7) fun t xs w => sm2 _ _ w).2 x.nm
          · rw [e] at hxM
            cases hxM
          obtain rfl : x' = x := Option.some.inj (e1.symm.trans hxM)
          have tk : (srt M).take (i + 1) = (srt M).take i ++ [x'] := by rw [List.take_add_one, hx, Option.toList_some]
          refine ⟨rfl, ⟨_, rfl, _, rfl, S, .int x'.k, rfl, by rw [← gS]; exact DGet.k (k := Sum.inr x'.nm) hS7, rfl, _, rfl, ?_⟩⟩
          refine ite2 (fun e => ?_) (fun e => ?_)
          · have ek : x'.k ≠ 0 := fun z => by
              rw [z] at e
              simp at e
            refine ⟨_, rfl, _, rfl, _, rfl, S, .int x'.k, rfl, by rw [← gS]; exact DGet.k (k := Sum.inr x'.nm) hS7, (by show 2 ≤ sizeLine; decide), fun z nz => ?_⟩
            have sz := same_upd (o := .tup [V.str x'.nm, V.int x'.k]) nz
            refine ⟨_, rfl, _, rfl, E2, .ref q, rfl, by rw [← e2]; exact DGet.k (k := Sum.inr x'.nm) (sz _ _ hE7), z, q, _, _, rfl, rfl, sql_ofT upd_same, sql_ofT (sz _ _ e3), by simp, by show 2 + 2 ≤ sizeLine; decide, fun z => absurd z (by simp), fun _ p np => ?_⟩
            have sp := same_upd (o := .tup ([V.str x'.nm, V.int x'.k] ++ [V.int x'.lo, V.int x'.hi])) np
            have hDp := sp _ _ (sz _ _ hD)
            have npq : p ≠ D := (ne_of_none (sz _ _ hD) np).symm
            refine ⟨xs, hDp, ?_, xs ++ [.ref p], upd_same, ?_, ?_⟩
            · rw [hT.len]
              refine small1000 (Nat.le_trans (List.length_filter_le _ _) ?_)
              rw [List.length_take]
              omega
            · rw [tk, List.filter_append]
              have ef : [x'].filter (fun x => decide (x.k ≠ 0)) = [x'] := by simp [ek]
              rw [ef]
              refine TAll.app (hT.mono fun t xs w => ?_) (.cons x' p ?_ .nil)
              · have z2 := sp _ _ (sz _ _ w)
                rw [upd_ne (ne_of z2 hDp fun v => nomatch v)]
                exact z2
              · rw [upd_ne npq, upd_same]
                rfl
            · intro b' o eb
              rw [upd_ne (ne_of_none eb nD)]
              exact sp _ _ (sz _ _ (sm2 _ _ eb))
          · have ek : x'.k = 0 := by
              refine Classical.byContradiction fun z => e ?_
              have : ¬ (V.int x'.k = V.int 0) := fun w => z (V.int.inj w)
              simp [this]
            refine ⟨xs, hD, ?_, sm2⟩
            rw [tk, List.filter_append]
            have ef : [x'].filter (fun x => decide (x.k ≠ 0)) = [] := by simp [ek]
            rw [ef, List.append_nil]
            exact hT
        · rintro H7 ⟨xs, hD, hT, sm2⟩
          rw [List.length_map, List.take_of_length_le (by omega)] at hT
          have s7 : Same H H7 := s4.trans (sm5.trans sm2)
          refine k D xs H7 s7 ?_ hD hT
          exact (s4.trans sm5).free nD
    · have s23 := same_upd (o := .tup (us ++ ws)) nc
      have hc3 : (upd H2 c (.tup (us ++ ws))) c = some (.tup (us ++ ws)) := upd_same
      have hT3 : TAll (upd H2 c (.tup (us ++ ws))) (us ++ ws) (ts ++ vs') := (hA2.app hB2).mono fun t xs w => s23 _ _ w
      have hS3 := s23 _ _ hS0
      have hE3 := s23 _ _ hE0
      generalize (upd H2 c (.tup (us ++ ws))) = H3 at hc3 hT3 hS3 hE3 s23
      have hSc : c ≠ S := ne_of hc3 hS3 fun z => nomatch z
      have hEc : c ≠ E2 := ne_of hc3 hE3 fun z => nomatch z
      generalize us ++ ws = aus at hc3 hT3 hall
      generalize ts ++ vs' = all at hT3 hall hal9 k
      refine ⟨c, rfl, ⟨_, sql_ofT hc3⟩, for_tup (K := K) (a := c) (xs := aus) (fun i σ H4 => ∃ x4 x5 x6 x7 kvs, σ = [some (.ref a), some (.ref b), some (.ref S), some (.ref E2), x4, x5, x6, x7, none, none] ∧ H4 S = some (.dK (SD (addF (all.take i)))) ∧ H4 E2 = some (.dK kvs) ∧ ER H4 kvs (addF (all.take i)) ∧ (∀ b o, H3 b = some o → b ≠ S → b ≠ E2 → H4 b = some o))
        ⟨none, none, none, none, [], rfl, hS3, hE3, .nil, fun _ _ e _ _ => e⟩ (fun i σ H4 _ ⟨_, _, _, _, _, _, _, _, _, z⟩ => sql_ofT (z _ _ hc3 hSc hEc)) ?_ ?_⟩
      · rintro i y σ H4 hi ⟨x4, x5, x6, x7, kvs, rfl, hS, hE, hR, kp⟩
        have hil : i < aus.length := (List.getElem?_eq_some_iff.mp hi).1
        obtain ⟨x, q, hx, rfl, hq⟩ := hT3.at_ hi
        have hq4 := kp _ _ hq (ne_of hq hS3 fun z => nomatch z) (ne_of hq hE3 fun z => nomatch z)
        obtain ⟨inv1, inv2⟩ := addF_inv (all.take i)
        rw [List.length_take] at inv2
        refine ⟨q, _, rfl, sql_ofT hq4, rfl, _, _, rfl, _, _, rfl, _, _, rfl, _, _, rfl, rfl, ?_⟩
        refine ⟨_, rfl, S, rfl, .inl ⟨_, .inl hS⟩, _, rfl, _, DGet.k (k := Sum.inr x.nm) hS, ?_⟩
        rw [SD_kOf]
        refine ⟨_, rfl, _, _, rfl, rfl, fun r er => ⟨_, rfl, _, rfl, S, _, rfl, DPut.k (k := Sum.inr x.nm) hS (by rw [SD_len]; exact small1000 (by omega)), ?_⟩⟩
        have hS5 : (upd H4 S (.dK (putK (SD (addF (all.take i))) (Sum.inr x.nm) (.int r)))) S = some (.dK (SD (addF (all.take (i + 1))))) := by
          rw [upd_same, List.take_add_one, hx, Option.toList_some, addF_snoc, addP, ← er]
          exact congrArg (fun z => some (HO.dK z)) (SD_put (addF (all.take i)) ⟨x.nm, r, x.lo, x.hi⟩)
        have hE5 : (upd H4 S (.dK (putK (SD (addF (all.take i))) (Sum.inr x.nm) (.int r)))) E2 = some (.dK kvs) := by rw [upd_ne nSE.symm]; exact hE
        have t5 : ∀ t xs, H4 t = some (.tup xs) → (upd H4 S (.dK (putK (SD (addF (all.take i))) (Sum.inr x.nm) (.int r)))) t = some (.tup xs) := fun t xs w => by
          rw [upd_ne (ne_of w hS fun z => nomatch z)]
          exact w
        have k5 : ∀ b o, H4 b = some o → b ≠ S → (upd H4 S (.dK (putK (SD (addF (all.take i))) (Sum.inr x.nm) (.int r)))) b = some o := fun b o w nb => by
          rw [upd_ne nb]
          exact w
        generalize (upd H4 S (.dK (putK (SD (addF (all.take i))) (Sum.inr x.nm) (.int r)))) = H5 at hS5 hE5 t5 k5
        refine ⟨_, rfl, _, rfl, (by show 2 ≤ sizeLine; decide), fun z nz => ?_⟩
        have sz := same_upd (o := .tup [V.int x.lo, V.int x.hi]) nz
        have hEz := sz _ _ hE5
        refine ⟨_, rfl, _, rfl, E2, _, rfl, DPut.k (k := Sum.inr x.nm) hEz (by rw [hR.1]; exact small1000 (by omega)), ?_⟩
        refine ⟨_, _, _, _, _, rfl, ?_, upd_same, ?_, fun b' o eb n1 n2 => ?_⟩
        · rw [upd_ne nSE]
          exact sz _ _ hS5
        · rw [List.take_add_one, hx, Option.toList_some, addF_snoc, addP]
          refine ((hR.mono fun t xs w => sz _ _ (t5 _ _ w)).put (x := ⟨x.nm, kOf (addF (all.take i)) x.nm + x.k, x.lo, x.hi⟩) (q := z) upd_same).mono fun t xs w => ?_
          rw [upd_ne (ne_of w hEz fun v => nomatch v)]
          exact w
        · rw [upd_ne n2]
          exact sz _ _ (k5 _ _ (kp _ _ eb n1 n2) n1)
      · rintro σ H4 ⟨x4, x5, x6, x7, kvs, rfl, hS, hE, hR, kp⟩
        rw [List.take_of_length_le (by omega)] at hS hR
        obtain ⟨nd, inv2⟩ := addF_inv all
        have s4 : Same H H4 := fun b' o eb => kp _ _ (s23 _ _ (s12 _ _ eb)) (ne_of_none eb nS) (ne_of_none eb nE0)
        clear hS3 hE3 hT3 hc3 kp s23 hSc hEc
        generalize addF all = M at hS hR nd inv2 k
        -- the names in order
        refine ⟨S, .dK (SD M), hS, trivial, fun od => ?_⟩
        have hfz : (upd H4 S (.frz od (.dK (SD M)))) S = some (.frz od (.dK (SD M))) := upd_same
        refine ⟨_, rfl, S, od, rfl, .inl ⟨SD M, hfz, fun B nB => ?_⟩⟩
        have hBd : S ≠ B := ne_of_none hfz nB
        refine lc_it walk_keys (fun i H5 => H5 = upd (upd H4 S (.frz od (.dK (SD M)))) B (.lst ((KeyL M).take i))) rfl (fun i H5 _ e => by rw [e, upd_ne hBd]; exact hfz) ?_ ?_
        · rintro i x H5 H6 hi rfl ⟨rfl, kk, vv, hk, rfl⟩
          obtain ⟨y, hy, rfl⟩ := SD_at hk
          have hc' : (KeyL M)[i]? = some (.str y.nm) := by
            unfold KeyL nms
            rw [List.getElem?_map, List.getElem?_map, hy]
            rfl
          refine ⟨rfl, ?_⟩
          refine ⟨_, rfl, y.nm, rfl, _, upd_same, ?_, ?_⟩
          · rw [List.length_take]
            have lk : (KeyL M).length = M.length := by
              unfold KeyL nms
              rw [List.length_map, List.length_map]
            exact small1000 (by omega)
          · rw [upd_upd, List.take_add_one, hc']
            rfl
        rintro H5 rfl
        have nB' : H4 B = none := by
          rw [upd_ne hBd.symm] at nB
          exact nB
        have lk : (KeyL M).length = M.length := by
          unfold KeyL nms
          rw [List.length_map, List.length_map]
        have ls := SD_len M
        rw [List.take_of_length_le (by omega)]
        refine ⟨by rw [upd_ne hBd]; exact hfz, ?_⟩
        have hB' : (upd (upd (upd H4 S (.frz od (.dK (SD M)))) B (.lst (KeyL M))) S (.dK (SD M))) B = some (.lst (KeyL M)) := by rw [upd_ne hBd.symm, upd_same]
        have sm : Same H4 (upd (upd (upd H4 S (.frz od (.dK (SD M)))) B (.lst (KeyL M))) S (.dK (SD M))) := fun b o e => by
          have h2 := ne_of_none e nB'
          by_cases h1 : b = S
          · subst h1
            rw [hS] at e
            rw [upd_same]
            exact e
          · rw [upd_ne h1, upd_ne h2, upd_ne h1]
            exact e
        generalize (upd (upd (upd H4 S (.frz od (.dK (SD M)))) B (.lst (KeyL M))) S (.dK (SD M))) = H5 at hB' sm
        refine ⟨B, nms M, rfl, sql_of hB', fun ol no => ?_⟩
        have s5 := same_upd (o := .lst (((nms M).mergeSort leT).map V.str)) no
        have hO : (upd H5 ol (.lst (((nms M).mergeSort leT).map V.str))) ol = some (.lst ((sortS (nms M)).map V.str)) := upd_same
        have sm5 := sm.trans s5
        generalize (upd H5 ol (.lst (((nms M).mergeSort leT).map V.str))) = H6 at hO sm5
        have ns : nms (srt M) = sortS (nms M) := srt_nms M
        have sl : (srt M).length = (sortS (nms M)).length := by
          rw [← ns]
          unfold nms
          rw [List.length_map]
        have sn : (sortS (nms M)).length = M.length := by
          rw [(sortS_perm _).length_eq]
          unfold nms
          rw [List.length_map]
        have hS6 := sm5 _ _ hS
        have hE6 := sm5 _ _ hE
        have hR6 := hR.mono (H' := H6) fun t xs w => sm5 _ _ w
        refine ⟨_, rfl, ol, rfl, ⟨_, sql_of hO⟩, fun D nD => lc_list (K := K) (a := ol) (xs := (sortS (nms M)).map V.str) (fun i H7 => ∃ xs, H7 D = some (.lst xs) ∧ TAll H7 xs (((srt M).take i).filter fun x => decide (x.k ≠ 0)) ∧ Same H6 H7) ⟨[], upd_same, .nil, same_upd nD⟩ (fun i H7 _ ⟨_, _, _, z⟩ => sql_of (z _ _ hO)) ?_ ?_⟩
        · rintro i y H7 hi ⟨xs, hD, hT, sm2⟩
          have hil : i < ((sortS (nms M)).map V.str).length := (List.getElem?_eq_some_iff.mp hi).1
          rw [List.length_map] at hil
          have hx : (srt M)[i]? = some (srt M)[i] := List.getElem?_eq_getElem (by omega)
          generalize (srt M)[i] = x at hx
          have hy : y = .str x.nm := by
            rw [← ns] at hi
            unfold nms at hi
            rw [List.getElem?_map, List.getElem?_map, hx] at hi
            exact (Option.some.inj hi).symm
          subst hy
          have hxM : getT M x.nm = some x := getT_mem nd ((mem_srt nd).mp (List.mem_of_getElem? hx))
          have hS7 := sm2 _ _ hS6
          have hE7 := sm2 _ _ hE6
          have gS : valV (SD M) (Sum.inr x.nm : Key) = some (.int x.k) := by
            rw [SD_get, hxM]
            rfl
          obtain ⟨e, _⟩ | ⟨x', q, e1, e2, e3⟩ := (hR6.mono (H' := H7) fun t xs w => sm2 _ _ w).2 x.nm
          · rw [e] at hxM
            cases hxM
          obtain rfl : x' = x := Option.some.inj (e1.symm.trans hxM)
          have tk : (srt M).take (i + 1) = (srt M).take i ++ [x'] := by rw [List.take_add_one, hx, Option.toList_some]
          refine ⟨rfl, ⟨_, rfl, _, rfl, S, .int x'.k, rfl, by rw [← gS]; exact DGet.k (k := Sum.inr x'.nm) hS7, rfl, _, rfl, ?_⟩⟩
          refine ite2 (fun e => ?_) (fun e => ?_)
          · have ek : x'.k ≠ 0 := fun z => by
              rw [z] at e
              simp at e
            refine ⟨_, rfl, _, rfl, _, rfl, S, .int x'.k, rfl, by rw [← gS]; exact DGet.k (k := Sum.inr x'.nm) hS7, (by show 2 ≤ sizeLine; decide), fun z nz => ?_⟩
            have sz := same_upd (o := .tup [V.str x'.nm, V.int x'.k]) nz
            refine ⟨_, rfl, _, rfl, E2, .ref q, rfl, by rw [← e2]; exact DGet.k (k := Sum.inr x'.nm) (sz _ _ hE7), z, q, _, _, rfl, rfl, sql_ofT upd_same, sql_ofT (sz _ _ e3), by simp, by show 2 + 2 ≤ sizeLine; decide, fun z => absurd z (by simp), fun _ p np => ?_⟩
            have sp := same_upd (o := .tup ([V.str x'.nm, V.int x'.k] ++ [V.int x'.lo, V.int x'.hi])) np
            have hDp := sp _ _ (sz _ _ hD)
            have npq : p ≠ D := (ne_of_none (sz _ _ hD) np).symm
            refine ⟨xs, hDp, ?_, xs ++ [.ref p], upd_same, ?_, ?_⟩
            · rw [hT.len]
              refine small1000 (Nat.le_trans (List.length_filter_le _ _) ?_)
              rw [List.length_take]
              omega
            · rw [tk, List.filter_append]
              have ef : [x'].filter (fun x => decide (x.k ≠ 0)) = [x'] := by simp [ek]
              rw [ef]
              refine TAll.app (hT.mono fun t xs w => ?_) (.cons x' p ?_ .nil)
              · have z2 := sp _ _ (sz _ _ w)
                rw [upd_ne (ne_of z2 hDp fun v => nomatch v)]
                exact z2
              · rw [upd_ne npq, upd_same]
                rfl
            · intro b' o eb
              rw [upd_ne (ne_of_none eb nD)]
              exact sp _ _ (sz _ _ (sm2 _ _ eb))
          · have ek : x'.k = 0 := by
              refine Classical.byContradiction fun z => e ?_
              have : ¬ (V.int x'.k = V.int 0) := fun w => z (V.int.inj w)
              simp [this]
            refine ⟨xs, hD, ?_, sm2⟩
            rw [tk, List.filter_append]
            have ef : [x'].filter (fun x => decide (x.k ≠ 0)) = [] := by simp [ek]
            rw [ef, List.append_nil]
            exact hT
        · rintro H7 ⟨xs, hD, hT, sm2⟩
          rw [List.length_map, List.take_of_length_le (by omega)] at hT
          have s7 : Same H H7 := s4.trans (sm5.trans sm2)
          refine k D xs H7 s7 ?_ hD hT
          exact (s4.trans sm5).free nD
end
end DO

namespace DO
open PySem PySem.Spec PyProof.Rows L2
section
variable {P : Program} {w : World} {K : PySem.W.Frag} {mg : Str → Option Value} {base : Heap}
abbrev sAdd : Stmt := inClass sCls 1
theorem scAdd : FnScope ["self", "other"] ["self", "other"] (defScope sAdd) := ⟨rfl, rfl, rfl, by decide +kernel, rfl, by decide +kernel, by decide +kernel⟩
structure TsOk (ts : List Tm) : Prop where
  nd : (nms ts).Nodup
  ok : NmsOk ts
  sz : ts.length ≤ 400
def spAdd (K : PySem.W.Frag) (C CU : Addr) : Sp := fun vs H Q E => ∃ (p : Addr) (n : Int) (ts : List Tm) (y : V), vs = [.ref p, y] ∧ FormAt C H p n ts ∧ TsOk ts ∧
  ((∃ i : Int, y = .int i ∧ ∀ r H', H r = none → Same H H' → FormAt C H' r (n + i) ts → Q (.ref r) H') ∨
   ∃ (q : Addr) (m : Int) (us : List Tm), y = .ref q ∧ FormAt C H q m us ∧ TsOk us ∧ (∀ w, unl ts us = some w → Thrown E CU H [("name", .str w)]) ∧ (unl ts us = none → ∀ r H', H r = none → Same H H' → FormAt C H' r (n + m) (addS ts us) → Q (.ref r) H'))
theorem ok_add {C CU : Addr} (T : Frm K mg C) (M : Mf K C "__add__" "Form.__add__" sAdd ["self", "other"]) (DF : Df K mg "form_of" sFof ["constant", "terms"]) (GF : FnOk P w K mg base CX0 3 DF.f DF.fd ["constant", "terms"] (spFof K C))
    (DK : Df K mg "_check_ends" sChk ["first", "second"]) (GK : FnOk P w K mg base (L2N.CX P w) 4 DK.f DK.fd ["first", "second"] (spChk CU)) (DA : Df K mg "_added" sAdded ["first", "second"]) (GA : FnOk P w K mg base CX0 1 DA.f DA.fd ["first", "second"] spAdded)
    (mis : mg "isinstance" = none) (mint : mg "int" = none) : FnOk P w K mg base (L2N.CX P w) 5 M.f M.fd ["self", "other"] (spAdd K C CU) := by
  refine okN M.fn scAdd (fun vs H Q E h => ?_) (fun cdv A outer s H vs Q E hr h => ?_)
  · obtain ⟨p, n, ts, y, rfl, _⟩ := h
    rfl
  · obtain ⟨p, n, ts, y, rfl, hp, ho, hy⟩ := h
    refine ⟨_, (pss_cons (ps_if (pt_val (pe_callB call_isi (by rfl) mis (by decide +kernel) (pa_cons (pv 1) (pa_cons (pe_bltn (v := .ty "int") (by rfl) mint (by decide +kernel) rfl) pa_nil))))
      (pss_one (ps_ret (pe_call GF (hr.mono (by decide)) (by rfl) DF.mgf DF.fn.kp DF.bd .nil pass0 (pa_cons (pe_op op_addL (pe_fld (pv 0) rfl) (pv 1)) (pa_cons (pe_fld (pv 0) rfl) pa_nil)))))
      pss_nil)
      (pss_cons (ps_if (pt_not (pt_val (pe_callB call_isi (by rfl) mis (by decide +kernel) (pa_cons (pv 1) (pa_cons (pe_glob (v := .ref C) (by rfl) T.mgC rfl) pa_nil)))))
      (pss_one (ps_never))
      pss_nil)
      (pss_cons (ps_expr (pe_callS GK hr (by rfl) DK.mgf DK.fn.kp DK.bd (L2N.passAt (L2N.takes_of rfl rfl rfl rfl)) (pa_cons (pe_fld (pv 0) rfl) (pa_cons (pe_fld (pv 1) rfl) pa_nil))))
      (pss_one (ps_ret (pe_call GF (hr.mono (by decide)) (by rfl) DF.mgf DF.fn.kp DF.bd .nil pass0 (pa_cons (pe_op op_addL (pe_fld (pv 0) rfl) (pe_fld (pv 1) rfl)) (pa_cons (pe_call GA (hr.mono (by decide)) (by rfl) DA.mgf DA.fn.kp DA.bd .nil pass0 (pa_cons (pe_fld (pv 0) rfl) (pa_cons (pe_fld (pv 1) rfl) pa_nil))) pa_nil)))))))), ?_⟩
    obtain ⟨dx, t, us, h1, h2, h3⟩ := id hp
    rcases hy with ⟨i, rfl, k⟩ | ⟨q, m, vs', rfl, hq, hv, kx, k⟩
    · refine ⟨_, rfl, _, _, _, _, true, rfl, .ty "int", .base (.int i), kit_ty (by decide +kernel), true, rfl, ?_⟩
      refine iteT' rfl ?_
      exact ⟨_, rfl, p, C, dx, _, _, rfl, h1, T.cl, T.nC, ff_c _ _, _, rfl, n, i, rfl, rfl, fun r er => ⟨_, rfl, p, C, dx, _, _, rfl, h1, T.cl, T.nT, ff_t _ _, r, t, us, ts, rfl, .inr h2, h3, fun p' H' np s1 hf => k p' H' np s1 (er ▸ hf)⟩⟩
    · obtain ⟨dx', t', us', h1', h2', h3'⟩ := id hq
      refine ⟨_, rfl, _, _, _, _, false, rfl, .ty "int", TyX_frm T hq, T.kJ, false, rfl, ?_⟩
      refine iteF' rfl ?_
      refine ⟨_, rfl, _, _, _, _, true, rfl, .own C, TyX_frm T hq, T.kC, true, rfl, ?_⟩
      refine iteF' rfl ?_
      refine ⟨_, rfl, p, C, dx, _, _, rfl, h1, T.cl, T.nT, ff_t _ _, _, rfl, q, C, dx', _, _, rfl, h1', T.cl, T.nT, ff_t _ _, t, t', us, us', ts, vs', rfl, h2, h3, h2', h3', Nat.le_trans ho.sz (by decide), ho.nd, ho.ok, hv.ok, kx, fun e H1 s1 => ?_⟩
      have g1 := s1 _ _ h1
      have g1' := s1 _ _ h1'
      refine ⟨_, rfl, p, C, dx, _, _, rfl, g1, T.cl, T.nC, ff_c _ _, _, rfl, q, C, dx', _, _, rfl, g1', T.cl, T.nC, ff_c _ _, n, m, rfl, rfl, fun r er => ?_⟩
      refine ⟨_, rfl, p, C, dx, _, _, rfl, g1, T.cl, T.nT, ff_t _ _, _, rfl, q, C, dx', _, _, rfl, g1', T.cl, T.nT, ff_t _ _, t, t', us, us', ts, vs', rfl, s1 _ _ h2, h3.mono fun t xs w => s1 _ _ w, s1 _ _ h2', h3'.mono fun t xs w => s1 _ _ w, ?_, fun l xs H2 s2 nl hl hT => ?_⟩
      · have := ho.sz
        have := hv.sz
        omega
      · exact ⟨r, l, xs, _, rfl, .inl hl, hT, fun p' H' np s3 hf => k e p' H' ((s1.trans s2).free np) ((s1.trans s2).trans s3) (er ▸ hf)⟩
end
end DO

namespace DO
open PySem PySem.Spec PyProof.Rows L2
open AutoSeq1 (wpAny_loadPart')
/-! ### operators whose way out may hang on the slots -/
def OpS (X : Cx) (f : Value → Value → Sem Value) (r : L2.St → R2) : Prop :=
  ∀ (pins : List (Addr × Obj)) (s : Shared) (σ : L2.St) (H : Hp) (x y : V) (v u : Value) (Q : VK), L2.Inv X pins σ H s → RelV x v → RelV y u → r σ x y H Q → wpAny (model X.prog X.w) X.A (f v u) (EP X pins σ Q) X.xe s
def tOpS (r : L2.St → R2) (ta tb : TE) : TE := fun σ H Q => ta σ H fun x H1 => tb σ H1 fun y H2 => r σ x y H2 Q
section
variable {X : Cx} {a b : Expr} {ta tb : TE} {pos : Pos}
theorem pe_opS {op : Operator} {r : L2.St → R2} (ho : OpS X (binaryOp op) r) (ha : PE X a ta) (hb : PE X b tb) : PE X (.BinOp a op b pos) (tOpS r ta tb) := by
  refine ⟨fun pins s σ H Q I h => ?_⟩
  exact wpAny_BinOp (binT ha hb I h fun v u s2 x y H2 I2 rx ry q => ho pins s2 σ H2 x y v u Q I2 rx ry q)
theorem pe_cmpS {op : CmpOp} {r : L2.St → R2} (ho : OpS X (compareOp op) r) (ha : PE X a ta) (hb : PE X b tb) (hm : behindInMarks op b = false) : PE X (.Compare a [op] [b] pos) (tOpS r ta tb) := by
  refine ⟨fun pins s σ H Q I h => ?_⟩
  exact wpAny_Compare1 (binT ha hb I h fun v u s2 x y H2 I2 rx ry q => ho pins s2 σ H2 x y v u Q I2 rx ry q) hm
theorem OpS.or {f : Value → Value → Sem Value} {r r' : L2.St → R2} (h : OpS X f r) (h' : OpS X f r') : OpS X f (fun σ x y H Q => r σ x y H Q ∨ r' σ x y H Q) := by
  intro pins s σ H x y v u Q I rx ry q
  rcases q with q | q
  · exact h pins s σ H x y v u Q I rx ry q
  · exact h' pins s σ H x y v u Q I rx ry q
theorem OpS.of {f : Value → Value → Sem Value} {r : R2} (h : OpR X f r) : OpS X f (fun _ => r) := fun pins s σ H x y v u Q I rx ry q => h pins s σ H x y v u Q I rx ry q
end
section
variable {prog : Program} {w : World} {A : Around} {E : Value → Shared → Prop} {s : Shared} {a C : Addr} {dd : Option Addr} {sl : Array (Option Value)}
theorem dec_add {Q : Value → Shared → Prop} {x : Int} {t : Tok} (ha : s.heap.get? a = some { cls := .ref C, dict := dd, data := .plain, slots := sl }) (h : Q .notImplemented s) : wpAny (model prog w) A (call (.builtin "int.__add__") [.int x t, .ref a]) Q E s := by
  have h1 : s.TypeIs (.int x t) "int" := rfl
  have h2 := PySem.F.entry_int_add
  have h3 := PySem.F.args_int_add_2 (.int x t) (.ref a)
  have h4 := @PySem.F.slot_int_add
  refine GQ.call_here (name := PySem.dunder "add") h4 h1 h2 h3 ?_
  obtain ⟨hp, g, d, tk, os⟩ := s
  wp_walk using wpAny_loadPart' ha, wpAny_load ha
  exact h
open PySem.W in
theorem add_back {K : Frag} {h₀ : Heap} {L f g : Addr} {m : Str → Option Value} {n : Int} {t : Tok} {ox : Obj} {od : Option Obj} {fo ro : Option Value} {Q : Value → Shared → Prop} (F : Fr h₀ L s.heap m) (X₀ : K.In h₀) (I : InstAt s.heap a ox C od) (hc : selfFirst K C = true)
    (ha : s.heap.get? a = some { cls := .ref C, dict := dd, data := .plain, slots := sl })
    (hs : findIn K (.ref C) (PySem.dunder "add") = some (some (.ref g))) (hr : findIn K (.ref C) (dunderR "add") = some (some (.ref f))) (hf : isFn K (.ref f) = true)
    (h1 : findIn K (.type "int") (PySem.dunder "add") = some fo) (h2 : findIn K (.type "int") (dunderR "add") = some ro) (hb : ((fo.isSome && !isSeqSlot fo) || (ro.isSome && !isSeqSlot ro)) = true) (hsub : subIn K (.ref C) (.type "int") = some false)
    (h : wpAny (model prog w) A (call (.ref f) [.ref a, .int n t]) (PySem.W.CmpBack Q) E s) : wpAny (model prog w) A (binaryOp .Add (.int n t) (.ref a)) Q E s := by
  have X := X₀.keeps F.keep
  obtain ⟨cd, rest, hcd, hm⟩ := ksp_first hc
  have one := ksp_try X I hr hf h
  have dec : wpAny (model prog w) A (tryMethod (.int n t) (PySem.dunder "add") (.ref a)) (fun r s' => r = none ∧ s' = s) E s := by
    unfold tryMethod
    have h1 : s.TypeIs (.int n t) "int" := rfl
    have h4 := @PySem.F.slot_int_add
    refine wpAny_bind (wpAny_callSpecial?_slot (name := PySem.dunder "add") h1 h4 (dec_add ha ?_))
    exact wpAny_pure ⟨rfl, rfl⟩
  obtain ⟨hh, g', d, tt, os⟩ := s
  have L1 : Looks (model prog w) hh (typeOf (.ref a)) (.ref C) := I.type
  have L2 : Looks (model prog w) hh (typeOf (.int n t)) (.type "int") := Looks.of_pure rfl
  have L3 : Looks (model prog w) hh (fillsNumberSlot (.ref C) "add") true := fills_K X hcd hm hs
  have L4 : Looks (model prog w) hh (fillsNumberSlot (.type "int") "add") true := by
    have z := ksp_fillsT (M := model prog w) X h1 h2
    rw [hb] at z
    exact z
  have L5 : Looks (model prog w) hh (isSubtype (.ref C) (.type "int")) false := looks_subIn X hsub
  have L7 : Looks (model prog w) hh (numberSlotInPython (.type "int") "add") false := Looks.of_pure rfl
  have hne : (Value.type "int" == Value.ref C) = false := Bool.eq_false_iff.mpr fun q => by cases beq_iff_eq.mp q
  show wpAny _ _ (holding _ _) _ _ _
  refine wpAny_holding (wpAny_bind ?_)
  show wpAny _ _ (binaryOp1 "add" (.int n t) (.ref a)) _ _ _
  unfold binaryOp1
  refine wpAny_bind (L2.at (wpAny_bind (L1.at (wpAny_bind (L4.at ?_)))))
  simp only [hne, Bool.false_eq_true, if_false]
  refine wpAny_bind (L3.at ?_)
  simp only [if_true, Bool.and_self]
  refine wpAny_bind (L5.at ?_)
  simp only [Bool.false_eq_true, if_false, Bool.not_false, Bool.and_self, if_true]
  refine wpAny_bind (L7.at ?_)
  simp only [Bool.false_eq_true, if_false]
  refine wpAny_bind (wpAny_mono dec (fun r s' z => ?_) fun _ _ e => e)
  obtain ⟨rfl, rfl⟩ := z
  dsimp only
  refine wpAny_bind (wpAny_mono one (fun r s' z => ?_) fun _ _ e => e)
  obtain ⟨v, rfl, hq⟩ := z
  exact wpAny_bind (wpAny_rule (wpAny_pure (wpAny_pure hq)))
theorem dec_sub {Q : Value → Shared → Prop} {x : Int} {t : Tok} (ha : s.heap.get? a = some { cls := .ref C, dict := dd, data := .plain, slots := sl }) (h : Q .notImplemented s) : wpAny (model prog w) A (call (.builtin "int.__sub__") [.int x t, .ref a]) Q E s := by
  have h1 : s.TypeIs (.int x t) "int" := rfl
  have h2 := PySem.F.entry_int_sub
  have h3 := PySem.F.args_int_sub_2 (.int x t) (.ref a)
  have h4 := @PySem.F.slot_int_sub
  refine GQ.call_here (name := PySem.dunder "sub") h4 h1 h2 h3 ?_
  obtain ⟨hp, g, d, tk, os⟩ := s
  wp_walk using wpAny_loadPart' ha, wpAny_load ha
  exact h
open PySem.W in
theorem sub_back {K : Frag} {h₀ : Heap} {L f g : Addr} {m : Str → Option Value} {n : Int} {t : Tok} {ox : Obj} {od : Option Obj} {fo ro : Option Value} {Q : Value → Shared → Prop} (F : Fr h₀ L s.heap m) (X₀ : K.In h₀) (I : InstAt s.heap a ox C od) (hc : selfFirst K C = true)
    (ha : s.heap.get? a = some { cls := .ref C, dict := dd, data := .plain, slots := sl })
    (hs : findIn K (.ref C) (PySem.dunder "sub") = some (some (.ref g))) (hr : findIn K (.ref C) (dunderR "sub") = some (some (.ref f))) (hf : isFn K (.ref f) = true)
    (h1 : findIn K (.type "int") (PySem.dunder "sub") = some fo) (h2 : findIn K (.type "int") (dunderR "sub") = some ro) (hb : ((fo.isSome && !isSeqSlot fo) || (ro.isSome && !isSeqSlot ro)) = true) (hsub : subIn K (.ref C) (.type "int") = some false)
    (h : wpAny (model prog w) A (call (.ref f) [.ref a, .int n t]) (PySem.W.CmpBack Q) E s) : wpAny (model prog w) A (binaryOp .Sub (.int n t) (.ref a)) Q E s := by
  have X := X₀.keeps F.keep
  obtain ⟨cd, rest, hcd, hm⟩ := ksp_first hc
  have one := ksp_try X I hr hf h
  have dec : wpAny (model prog w) A (tryMethod (.int n t) (PySem.dunder "sub") (.ref a)) (fun r s' => r = none ∧ s' = s) E s := by
    unfold tryMethod
    have h1 : s.TypeIs (.int n t) "int" := rfl
    have h4 := @PySem.F.slot_int_sub
    refine wpAny_bind (wpAny_callSpecial?_slot (name := PySem.dunder "sub") h1 h4 (dec_sub ha ?_))
    exact wpAny_pure ⟨rfl, rfl⟩
  obtain ⟨hh, g', d, tt, os⟩ := s
  have L1 : Looks (model prog w) hh (typeOf (.ref a)) (.ref C) := I.type
  have L2 : Looks (model prog w) hh (typeOf (.int n t)) (.type "int") := Looks.of_pure rfl
  have L3 : Looks (model prog w) hh (fillsNumberSlot (.ref C) "sub") true := fills_K X hcd hm hs
  have L4 : Looks (model prog w) hh (fillsNumberSlot (.type "int") "sub") true := by
    have z := ksp_fillsT (M := model prog w) X h1 h2
    rw [hb] at z
    exact z
  have L5 : Looks (model prog w) hh (isSubtype (.ref C) (.type "int")) false := looks_subIn X hsub
  have L7 : Looks (model prog w) hh (numberSlotInPython (.type "int") "sub") false := Looks.of_pure rfl
  have hne : (Value.type "int" == Value.ref C) = false := Bool.eq_false_iff.mpr fun q => by cases beq_iff_eq.mp q
  show wpAny _ _ (holding _ _) _ _ _
  refine wpAny_holding (wpAny_bind ?_)
  show wpAny _ _ (binaryOp1 "sub" (.int n t) (.ref a)) _ _ _
  unfold binaryOp1
  refine wpAny_bind (L2.at (wpAny_bind (L1.at (wpAny_bind (L4.at ?_)))))
  simp only [hne, Bool.false_eq_true, if_false]
  refine wpAny_bind (L3.at ?_)
  simp only [if_true, Bool.and_self]
  refine wpAny_bind (L5.at ?_)
  simp only [Bool.false_eq_true, if_false, Bool.not_false, Bool.and_self, if_true]
  refine wpAny_bind (L7.at ?_)
  simp only [Bool.false_eq_true, if_false]
  refine wpAny_bind (wpAny_mono dec (fun r s' z => ?_) fun _ _ e => e)
  obtain ⟨rfl, rfl⟩ := z
  dsimp only
  refine wpAny_bind (wpAny_mono one (fun r s' z => ?_) fun _ _ e => e)
  obtain ⟨v, rfl, hq⟩ := z
  exact wpAny_bind (wpAny_rule (wpAny_pure (wpAny_pure hq)))
theorem dec_mul {Q : Value → Shared → Prop} {x : Int} {t : Tok} (ha : s.heap.get? a = some { cls := .ref C, dict := dd, data := .plain, slots := sl }) (h : Q .notImplemented s) : wpAny (model prog w) A (call (.builtin "int.__mul__") [.int x t, .ref a]) Q E s := by
  have h1 : s.TypeIs (.int x t) "int" := rfl
  have h2 := PySem.F.entry_int_mul
  have h3 := PySem.F.args_int_mul_2 (.int x t) (.ref a)
  have h4 := @PySem.F.slot_int_mul
  refine GQ.call_here (name := PySem.dunder "mul") h4 h1 h2 h3 ?_
  obtain ⟨hp, g, d, tk, os⟩ := s
  wp_walk using wpAny_loadPart' ha, wpAny_load ha
  exact h
open PySem.W in
theorem mul_back {K : Frag} {h₀ : Heap} {L f g : Addr} {m : Str → Option Value} {n : Int} {t : Tok} {ox : Obj} {od : Option Obj} {fo ro : Option Value} {Q : Value → Shared → Prop} (F : Fr h₀ L s.heap m) (X₀ : K.In h₀) (I : InstAt s.heap a ox C od) (hc : selfFirst K C = true)
    (ha : s.heap.get? a = some { cls := .ref C, dict := dd, data := .plain, slots := sl })
    (hs : findIn K (.ref C) (PySem.dunder "mul") = some (some (.ref g))) (hr : findIn K (.ref C) (dunderR "mul") = some (some (.ref f))) (hf : isFn K (.ref f) = true)
    (h1 : findIn K (.type "int") (PySem.dunder "mul") = some fo) (h2 : findIn K (.type "int") (dunderR "mul") = some ro) (hb : ((fo.isSome && !isSeqSlot fo) || (ro.isSome && !isSeqSlot ro)) = true) (hsub : subIn K (.ref C) (.type "int") = some false)
    (h : wpAny (model prog w) A (call (.ref f) [.ref a, .int n t]) (PySem.W.CmpBack Q) E s) : wpAny (model prog w) A (binaryOp .Mult (.int n t) (.ref a)) Q E s := by
  have X := X₀.keeps F.keep
  obtain ⟨cd, rest, hcd, hm⟩ := ksp_first hc
  have one := ksp_try X I hr hf h
  have dec : wpAny (model prog w) A (tryMethod (.int n t) (PySem.dunder "mul") (.ref a)) (fun r s' => r = none ∧ s' = s) E s := by
    unfold tryMethod
    have h1 : s.TypeIs (.int n t) "int" := rfl
    have h4 := @PySem.F.slot_int_mul
    refine wpAny_bind (wpAny_callSpecial?_slot (name := PySem.dunder "mul") h1 h4 (dec_mul ha ?_))
    exact wpAny_pure ⟨rfl, rfl⟩
  obtain ⟨hh, g', d, tt, os⟩ := s
  have L1 : Looks (model prog w) hh (typeOf (.ref a)) (.ref C) := I.type
  have L2 : Looks (model prog w) hh (typeOf (.int n t)) (.type "int") := Looks.of_pure rfl
  have L3 : Looks (model prog w) hh (fillsNumberSlot (.ref C) "mul") true := fills_K X hcd hm hs
  have L4 : Looks (model prog w) hh (fillsNumberSlot (.type "int") "mul") true := by
    have z := ksp_fillsT (M := model prog w) X h1 h2
    rw [hb] at z
    exact z
  have L5 : Looks (model prog w) hh (isSubtype (.ref C) (.type "int")) false := looks_subIn X hsub
  have L7 : Looks (model prog w) hh (numberSlotInPython (.type "int") "mul") false := Looks.of_pure rfl
  have hne : (Value.type "int" == Value.ref C) = false := Bool.eq_false_iff.mpr fun q => by cases beq_iff_eq.mp q
  show wpAny _ _ (holding _ _) _ _ _
  refine wpAny_holding (wpAny_bind ?_)
  show wpAny _ _ (binaryOp1 "mul" (.int n t) (.ref a)) _ _ _
  unfold binaryOp1
  refine wpAny_bind (L2.at (wpAny_bind (L1.at (wpAny_bind (L4.at ?_)))))
  simp only [hne, Bool.false_eq_true, if_false]
  refine wpAny_bind (L3.at ?_)
  simp only [if_true, Bool.and_self]
  refine wpAny_bind (L5.at ?_)
  simp only [Bool.false_eq_true, if_false, Bool.not_false, Bool.and_self, if_true]
  refine wpAny_bind (L7.at ?_)
  simp only [Bool.false_eq_true, if_false]
  refine wpAny_bind (wpAny_mono dec (fun r s' z => ?_) fun _ _ e => e)
  obtain ⟨rfl, rfl⟩ := z
  dsimp only
  refine wpAny_bind (wpAny_mono one (fun r s' z => ?_) fun _ _ e => e)
  obtain ⟨v, rfl, hq⟩ := z
  exact wpAny_bind (wpAny_rule (wpAny_pure (wpAny_pure hq)))
end
section
variable {prog : Program} {w : World} {A : Around} {R : Result → Shared → Prop} {E : Value → Shared → Prop} {s : Shared} {a l C : Addr} {dd : Option Addr} {dt : Data} {sl : Array (Option Value)} {Q : Value → Shared → Prop}
theorem dec_int_eq {x : Int} {t : Tok} (ha : s.heap.get? a = some { cls := .ref C, dict := dd, data := .plain, slots := sl }) (h : Q .notImplemented s) : wpAny (model prog w) A (call (.builtin "int.__eq__") [.int x t, .ref a]) Q E s := by
  refine GQ.call_here F.slot_int_eq (show s.TypeIs (.int x t) "int" from rfl) F.entry_int_eq (F.args_int_eq_2 _ _) ?_
  obtain ⟨hp, g, d, tk, os⟩ := s
  wp_walk using wpAny_loadPart' ha, wpAny_load ha
  exact h
/-- y == o, y of a built-in type whose own == declines -/
theorem rc_back_eq {K : PySem.W.Frag} {u : Value} {T id : String} {f : Addr} {ox : Obj} {od : Option Obj} (X : K.In s.heap) (hu : A.units < cLine) (ht : s.TypeIs u T) (slot : Slot T (cmpInfo .Eq).2.1 id)
    (dec : ∀ Q' : Value → Shared → Prop, Q' .notImplemented s → wpAny (model prog w) A (call (.builtin id) [u, .ref a]) Q' E s) (J : PySem.W.InstAt s.heap a ox C od) (hsub : PySem.W.subIn K (.ref C) (.type T) = some false)
    (hs : PySem.W.findIn K (.ref C) (cmpInfo .Eq).2.2 = some (some (.ref f))) (hf : PySem.W.isFn K (.ref f) = true) (h : wpAny (model prog w) A (call (.ref f) [.ref a, u]) (PySem.W.CmpBack Q) E s) :
    wpAny (model prog w) A (richCompare .Eq u (.ref a)) Q E s := by
  have one : wpAny (model prog w) A (tryCompare (.ref a) (cmpInfo .Eq).2.2 u) (fun r s' => ∃ v, r = some v ∧ Q v s') E s := by
    unfold tryCompare
    refine wpAny_bind (PySem.W.ifBound_K X J hs hf (wpAny_mono h (fun v s' hv => ?_) fun _ _ e => e))
    cases v <;> first | exact hv.elim | exact wpAny_pure ⟨_, rfl, hv⟩
  unfold richCompare
  simp only [ht.oneThing_none]
  refine wpAny_holding (wpAny_bind (wpAny_cRoomFor hu ?_))
  refine wpAny_bind (wpAny_typeOf ht (wpAny_bind (J.type.here ?_)))
  have hne : (Value.type T != Value.ref C) = true := by simp
  simp only [hne, if_true]
  refine wpAny_bind ((PySem.W.looks_subIn X hsub).here ?_)
  simp only [Bool.false_eq_true, if_false]
  refine wpAny_bind (m := tryCompare u _ (.ref a)) (wpAny_tryCompare_declines ht slot (dec _ ⟨rfl, ?_⟩))
  simp only [Bool.not_false, if_true]
  refine wpAny_bind (wpAny_mono one (fun r s' z => ?_) fun _ _ e => e)
  obtain ⟨v, rfl, hq⟩ := z
  exact wpAny_pure hq
theorem dec_int_le {x : Int} {t : Tok} (ha : s.heap.get? a = some { cls := .ref C, dict := dd, data := .plain, slots := sl }) (h : Q .notImplemented s) : wpAny (model prog w) A (call (.builtin "int.__le__") [.int x t, .ref a]) Q E s := by
  refine GQ.call_here F.slot_int_le (show s.TypeIs (.int x t) "int" from rfl) F.entry_int_le (F.args_int_le_2 _ _) ?_
  obtain ⟨hp, g, d, tk, os⟩ := s
  wp_walk using wpAny_loadPart' ha, wpAny_load ha
  exact h
/-- y == o, y of a built-in type whose own == declines -/
theorem rc_back_le {K : PySem.W.Frag} {u : Value} {T id : String} {f : Addr} {ox : Obj} {od : Option Obj} (X : K.In s.heap) (hu : A.units < cLine) (ht : s.TypeIs u T) (slot : Slot T (cmpInfo .LtE).2.1 id)
    (dec : ∀ Q' : Value → Shared → Prop, Q' .notImplemented s → wpAny (model prog w) A (call (.builtin id) [u, .ref a]) Q' E s) (J : PySem.W.InstAt s.heap a ox C od) (hsub : PySem.W.subIn K (.ref C) (.type T) = some false)
    (hs : PySem.W.findIn K (.ref C) (cmpInfo .LtE).2.2 = some (some (.ref f))) (hf : PySem.W.isFn K (.ref f) = true) (h : wpAny (model prog w) A (call (.ref f) [.ref a, u]) (PySem.W.CmpBack Q) E s) :
    wpAny (model prog w) A (richCompare .LtE u (.ref a)) Q E s := by
  have one : wpAny (model prog w) A (tryCompare (.ref a) (cmpInfo .LtE).2.2 u) (fun r s' => ∃ v, r = some v ∧ Q v s') E s := by
    unfold tryCompare
    refine wpAny_bind (PySem.W.ifBound_K X J hs hf (wpAny_mono h (fun v s' hv => ?_) fun _ _ e => e))
    cases v <;> first | exact hv.elim | exact wpAny_pure ⟨_, rfl, hv⟩
  unfold richCompare
  simp only [ht.oneThing_none]
  refine wpAny_holding (wpAny_bind (wpAny_cRoomFor hu ?_))
  refine wpAny_bind (wpAny_typeOf ht (wpAny_bind (J.type.here ?_)))
  have hne : (Value.type T != Value.ref C) = true := by simp
  simp only [hne, if_true]
  refine wpAny_bind ((PySem.W.looks_subIn X hsub).here ?_)
  simp only [Bool.false_eq_true, if_false]
  refine wpAny_bind (m := tryCompare u _ (.ref a)) (wpAny_tryCompare_declines ht slot (dec _ ⟨rfl, ?_⟩))
  simp only [Bool.not_false, if_true]
  refine wpAny_bind (wpAny_mono one (fun r s' z => ?_) fun _ _ e => e)
  obtain ⟨v, rfl, hq⟩ := z
  exact wpAny_pure hq
theorem dec_int_ge {x : Int} {t : Tok} (ha : s.heap.get? a = some { cls := .ref C, dict := dd, data := .plain, slots := sl }) (h : Q .notImplemented s) : wpAny (model prog w) A (call (.builtin "int.__ge__") [.int x t, .ref a]) Q E s := by
  refine GQ.call_here F.slot_int_ge (show s.TypeIs (.int x t) "int" from rfl) F.entry_int_ge (F.args_int_ge_2 _ _) ?_
  obtain ⟨hp, g, d, tk, os⟩ := s
  wp_walk using wpAny_loadPart' ha, wpAny_load ha
  exact h
/-- y == o, y of a built-in type whose own == declines -/
theorem rc_back_ge {K : PySem.W.Frag} {u : Value} {T id : String} {f : Addr} {ox : Obj} {od : Option Obj} (X : K.In s.heap) (hu : A.units < cLine) (ht : s.TypeIs u T) (slot : Slot T (cmpInfo .GtE).2.1 id)
    (dec : ∀ Q' : Value → Shared → Prop, Q' .notImplemented s → wpAny (model prog w) A (call (.builtin id) [u, .ref a]) Q' E s) (J : PySem.W.InstAt s.heap a ox C od) (hsub : PySem.W.subIn K (.ref C) (.type T) = some false)
    (hs : PySem.W.findIn K (.ref C) (cmpInfo .GtE).2.2 = some (some (.ref f))) (hf : PySem.W.isFn K (.ref f) = true) (h : wpAny (model prog w) A (call (.ref f) [.ref a, u]) (PySem.W.CmpBack Q) E s) :
    wpAny (model prog w) A (richCompare .GtE u (.ref a)) Q E s := by
  have one : wpAny (model prog w) A (tryCompare (.ref a) (cmpInfo .GtE).2.2 u) (fun r s' => ∃ v, r = some v ∧ Q v s') E s := by
    unfold tryCompare
    refine wpAny_bind (PySem.W.ifBound_K X J hs hf (wpAny_mono h (fun v s' hv => ?_) fun _ _ e => e))
    cases v <;> first | exact hv.elim | exact wpAny_pure ⟨_, rfl, hv⟩
  unfold richCompare
  simp only [ht.oneThing_none]
  refine wpAny_holding (wpAny_bind (wpAny_cRoomFor hu ?_))
  refine wpAny_bind (wpAny_typeOf ht (wpAny_bind (J.type.here ?_)))
  have hne : (Value.type T != Value.ref C) = true := by simp
  simp only [hne, if_true]
  refine wpAny_bind ((PySem.W.looks_subIn X hsub).here ?_)
  simp only [Bool.false_eq_true, if_false]
  refine wpAny_bind (m := tryCompare u _ (.ref a)) (wpAny_tryCompare_declines ht slot (dec _ ⟨rfl, ?_⟩))
  simp only [Bool.not_false, if_true]
  refine wpAny_bind (wpAny_mono one (fun r s' z => ?_) fun _ _ e => e)
  obtain ⟨v, rfl, hq⟩ := z
  exact wpAny_pure hq
end
section
variable {X : Cx} {CX : CXT} {k : Nat} {C f g : Addr} {fd : FuncData} {ps : List Str} {sp : Sp} {E : L2.St → XK}
theorem run_back {pins : List (Addr × Obj)} {σ : L2.St} {H : Hp} {s : Shared} {Q : VK} {us : List Value} {vs : List V} (F : FnOk X.prog X.w X.K X.mg X.base CX k f fd ps sp) (hr : Room k X.A) (hb : Binds X.K fd ps []) (hx : PassesAt CX X σ (E σ)) (I : L2.Inv X pins σ H s) (r : Vals vs us) (q : sp vs H Q (E σ)) :
    wpAny (model X.prog X.w) X.A (call (.ref f) us) (PySem.W.CmpBack (EP X pins σ Q)) X.xe s :=
  wpAny_mono (run_fnS F hr hb hx I r q) (fun r s' z => by
    obtain ⟨v', H', I', rz, q'⟩ := z
    exact SlX.cmpback rz ⟨v', H', I', rz, q'⟩) fun _ _ x => x
/-- o op o' -/
def rBinOS (C : Addr) (sp : Sp) (E : L2.St → XK) : L2.St → R2 := fun σ x y H Q => ∃ a dx fs b dy gs, x = .ref a ∧ y = .ref b ∧ H a = some (.ins C dx fs) ∧ H b = some (.ins C dy gs) ∧ sp [x, y] H Q (E σ)
theorem op_binOS {op : Operator} {nm : Str} (hn : PySem.dunder op.info.2 = nm) (M : Meth X.K C nm f) (hc : PySem.W.selfFirst X.K C = true) (F : FnOk X.prog X.w X.K X.mg X.base CX k f fd ps sp) (hr : Room k X.A) (hb : Binds X.K fd ps []) (hx : ∀ σ, PassesAt CX X σ (E σ)) : OpS X (binaryOp op) (rBinOS C sp E) := by
  intro pins s σ H x y v u Q I rx ry h
  obtain ⟨a, dx, fs, b, dy, gs, rfl, rfl, ha, hb', q⟩ := h
  obtain rfl : v = Value.ref a := rx
  obtain rfl : u = Value.ref b := ry
  obtain ⟨ox, od, J⟩ := inst_of I ha
  obtain ⟨oy, od', J'⟩ := inst_of I hb'
  obtain ⟨m, hF⟩ := I.fr
  subst hn
  exact PySem.W.binop_K hF I.ok.mod.kin J J'.type hc M.at_ M.fn (run_back (us := [.ref a, .ref b]) (vs := [.ref a, .ref b]) F hr hb (hx σ) I (.cons rfl (.cons rfl .nil)) q)
/-- o op n -/
def rBinIS (C : Addr) (sp : Sp) (E : L2.St → XK) : L2.St → R2 := fun σ x y H Q => ∃ a dx fs, ∃ n : Int, x = .ref a ∧ y = .int n ∧ H a = some (.ins C dx fs) ∧ sp [x, y] H Q (E σ)
theorem op_binIS {op : Operator} {nm nr : Str} {fo ro rc : Option Value} (hn : PySem.dunder op.info.2 = nm) (hn' : dunderR op.info.2 = nr) (M : Meth X.K C nm f) (hc : PySem.W.selfFirst X.K C = true)
    (hrr : PySem.W.findIn X.K (.ref C) nr = some rc) (hp : rc = none ∨ ∃ g : Addr, rc = some (.ref g)) (h1 : PySem.W.findIn X.K (.type "int") nm = some fo) (h2 : PySem.W.findIn X.K (.type "int") nr = some ro) (hsub : PySem.W.subIn X.K (.type "int") (.ref C) = some false)
    (F : FnOk X.prog X.w X.K X.mg X.base CX k f fd ps sp) (hr : Room k X.A) (hb : Binds X.K fd ps []) (hx : ∀ σ, PassesAt CX X σ (E σ)) : OpS X (binaryOp op) (rBinIS C sp E) := by
  intro pins s σ H x y v u Q I rx ry h
  obtain ⟨a, dx, fs, n, rfl, rfl, ha, q⟩ := h
  obtain rfl : v = Value.ref a := rx
  obtain ⟨t, rfl⟩ := ry
  obtain ⟨ox, od, J⟩ := inst_of I ha
  obtain ⟨m, hF⟩ := I.fr
  subst hn
  subst hn'
  exact PySem.W.ksp_binT hF I.ok.mod.kin J (T := "int") rfl hc M.at_ M.fn hrr hp h1 h2 hsub (run_back (us := [.ref a, .int n t]) (vs := [.ref a, .int n]) F hr hb (hx σ) I (.cons rfl (.cons ⟨t, rfl⟩ .nil)) q)
/-- n op o -/
def rIntOS (C : Addr) (sp : Sp) (E : L2.St → XK) : L2.St → R2 := fun σ x y H Q => ∃ a dx fs, ∃ n : Int, x = .int n ∧ y = .ref a ∧ H a = some (.ins C dx fs) ∧ sp [y, x] H Q (E σ)
theorem op_intOS_add {fo ro : Option Value} (MM : Meth X.K C "__add__" g) (M : Meth X.K C "__radd__" f) (hc : PySem.W.selfFirst X.K C = true) (h1 : PySem.W.findIn X.K (.type "int") "__add__" = some fo) (h2 : PySem.W.findIn X.K (.type "int") "__radd__" = some ro)
    (hb' : ((fo.isSome && !isSeqSlot fo) || (ro.isSome && !isSeqSlot ro)) = true) (hsub : PySem.W.subIn X.K (.ref C) (.type "int") = some false)
    (F : FnOk X.prog X.w X.K X.mg X.base CX k f fd ps sp) (hr : Room k X.A) (hb : Binds X.K fd ps []) (hx : ∀ σ, PassesAt CX X σ (E σ)) : OpS X (binaryOp .Add) (rIntOS C sp E) := by
  intro pins s σ H x y v u Q I rx ry h
  obtain ⟨a, dx, fs, n, rfl, rfl, ha, q⟩ := h
  obtain rfl : u = Value.ref a := ry
  obtain ⟨t, rfl⟩ := rx
  obtain ⟨ox, od, J⟩ := inst_of I ha
  obtain ⟨m, hF⟩ := I.fr
  obtain ⟨_, _, _, hob, _⟩ := I.hok _ _ ha
  have d1 : PySem.dunder "add" = ("__add__" : Str) := by decide +kernel
  have d2 : dunderR "add" = ("__radd__" : Str) := by decide +kernel
  exact add_back hF I.ok.mod.kin J hc hob (by rw [d1]; exact MM.at_) (by rw [d2]; exact M.at_) M.fn (by rw [d1]; exact h1) (by rw [d2]; exact h2) hb' hsub (run_back (us := [.ref a, .int n t]) (vs := [.ref a, .int n]) F hr hb (hx σ) I (.cons rfl (.cons ⟨t, rfl⟩ .nil)) q)
theorem op_intOS_sub {fo ro : Option Value} (MM : Meth X.K C "__sub__" g) (M : Meth X.K C "__rsub__" f) (hc : PySem.W.selfFirst X.K C = true) (h1 : PySem.W.findIn X.K (.type "int") "__sub__" = some fo) (h2 : PySem.W.findIn X.K (.type "int") "__rsub__" = some ro)
    (hb' : ((fo.isSome && !isSeqSlot fo) || (ro.isSome && !isSeqSlot ro)) = true) (hsub : PySem.W.subIn X.K (.ref C) (.type "int") = some false)
    (F : FnOk X.prog X.w X.K X.mg X.base CX k f fd ps sp) (hr : Room k X.A) (hb : Binds X.K fd ps []) (hx : ∀ σ, PassesAt CX X σ (E σ)) : OpS X (binaryOp .Sub) (rIntOS C sp E) := by
  intro pins s σ H x y v u Q I rx ry h
  obtain ⟨a, dx, fs, n, rfl, rfl, ha, q⟩ := h
  obtain rfl : u = Value.ref a := ry
  obtain ⟨t, rfl⟩ := rx
  obtain ⟨ox, od, J⟩ := inst_of I ha
  obtain ⟨m, hF⟩ := I.fr
  obtain ⟨_, _, _, hob, _⟩ := I.hok _ _ ha
  have d1 : PySem.dunder "sub" = ("__sub__" : Str) := by decide +kernel
  have d2 : dunderR "sub" = ("__rsub__" : Str) := by decide +kernel
  exact sub_back hF I.ok.mod.kin J hc hob (by rw [d1]; exact MM.at_) (by rw [d2]; exact M.at_) M.fn (by rw [d1]; exact h1) (by rw [d2]; exact h2) hb' hsub (run_back (us := [.ref a, .int n t]) (vs := [.ref a, .int n]) F hr hb (hx σ) I (.cons rfl (.cons ⟨t, rfl⟩ .nil)) q)
theorem op_intOS_mul {fo ro : Option Value} (MM : Meth X.K C "__mul__" g) (M : Meth X.K C "__rmul__" f) (hc : PySem.W.selfFirst X.K C = true) (h1 : PySem.W.findIn X.K (.type "int") "__mul__" = some fo) (h2 : PySem.W.findIn X.K (.type "int") "__rmul__" = some ro)
    (hb' : ((fo.isSome && !isSeqSlot fo) || (ro.isSome && !isSeqSlot ro)) = true) (hsub : PySem.W.subIn X.K (.ref C) (.type "int") = some false)
    (F : FnOk X.prog X.w X.K X.mg X.base CX k f fd ps sp) (hr : Room k X.A) (hb : Binds X.K fd ps []) (hx : ∀ σ, PassesAt CX X σ (E σ)) : OpS X (binaryOp .Mult) (rIntOS C sp E) := by
  intro pins s σ H x y v u Q I rx ry h
  obtain ⟨a, dx, fs, n, rfl, rfl, ha, q⟩ := h
  obtain rfl : u = Value.ref a := ry
  obtain ⟨t, rfl⟩ := rx
  obtain ⟨ox, od, J⟩ := inst_of I ha
  obtain ⟨m, hF⟩ := I.fr
  obtain ⟨_, _, _, hob, _⟩ := I.hok _ _ ha
  have d1 : PySem.dunder "mul" = ("__mul__" : Str) := by decide +kernel
  have d2 : dunderR "mul" = ("__rmul__" : Str) := by decide +kernel
  exact mul_back hF I.ok.mod.kin J hc hob (by rw [d1]; exact MM.at_) (by rw [d2]; exact M.at_) M.fn (by rw [d1]; exact h1) (by rw [d2]; exact h2) hb' hsub (run_back (us := [.ref a, .int n t]) (vs := [.ref a, .int n]) F hr hb (hx σ) I (.cons rfl (.cons ⟨t, rfl⟩ .nil)) q)
/-- o cmp y: y of the class, or an int -/
def rCmpOS (C : Addr) (sp : Sp) (E : L2.St → XK) : L2.St → R2 := fun σ x y H Q => ∃ a dx fs, x = .ref a ∧ H a = some (.ins C dx fs) ∧ ((∃ b dy gs, y = .ref b ∧ H b = some (.ins C dy gs)) ∨ ∃ n : Int, y = .int n) ∧ sp [x, y] H Q (E σ)
/-- n cmp o -/
def rCmpIS (C : Addr) (sp : Sp) (E : L2.St → XK) : L2.St → R2 := fun σ x y H Q => ∃ a dx fs, ∃ n : Int, x = .int n ∧ y = .ref a ∧ H a = some (.ins C dx fs) ∧ sp [y, x] H Q (E σ)
theorem op_cmpOS_eq (M : Meth X.K C "__eq__" f) (hnf : PySem.W.notFirst X.K C (.type "int") = true) (F : FnOk X.prog X.w X.K X.mg X.base CX k f fd ps sp) (hr : Room k X.A) (hb : Binds X.K fd ps []) (hx : ∀ σ, PassesAt CX X σ (E σ)) : OpS X (compareOp .Eq) (rCmpOS C sp E) := by
  intro pins s σ H x y v u Q I rx ry h
  obtain ⟨a, dx, fs, rfl, ha, hy, q⟩ := h
  obtain rfl : v = Value.ref a := rx
  obtain ⟨ox, od, J⟩ := inst_of I ha
  obtain ⟨m, hF⟩ := I.fr
  have hc := run_back (us := [.ref a, u]) (vs := [.ref a, y]) F hr hb (hx σ) I (.cons rfl (.cons ry .nil)) q
  show wpAny (model X.prog X.w) X.A (richCompare .Eq (.ref a) u) (EP X pins σ Q) X.xe s
  rcases hy with ⟨b, dy, gs, rfl, hb'⟩ | ⟨n, rfl⟩
  · obtain rfl : u = Value.ref b := ry
    obtain ⟨oy, od', J'⟩ := inst_of I hb'
    exact PySem.W.cmp_K (op := .Eq) (tb := .ref C) hr.units0 hF I.ok.mod.kin J J'.type (by simp [PySem.W.notFirst]) M.at_ M.fn hc
  · obtain ⟨t, rfl⟩ := ry
    exact PySem.W.cmp_K (op := .Eq) (tb := .type "int") hr.units0 hF I.ok.mod.kin J (PySem.W.Looks.of_pure rfl) hnf M.at_ M.fn hc
theorem op_cmpIS_eq (M : Meth X.K C "__eq__" f) (hsub : PySem.W.subIn X.K (.ref C) (.type "int") = some false) (F : FnOk X.prog X.w X.K X.mg X.base CX k f fd ps sp) (hr : Room k X.A) (hb : Binds X.K fd ps []) (hx : ∀ σ, PassesAt CX X σ (E σ)) : OpS X (compareOp .Eq) (rCmpIS C sp E) := by
  intro pins s σ H x y v u Q I rx ry h
  obtain ⟨a, dx, fs, n, rfl, rfl, ha, q⟩ := h
  obtain rfl : u = Value.ref a := ry
  obtain ⟨t, rfl⟩ := rx
  obtain ⟨ox, od, J⟩ := inst_of I ha
  obtain ⟨_, _, _, hob, _⟩ := I.hok _ _ ha
  have hc := run_back (us := [.ref a, .int n t]) (vs := [.ref a, .int n]) F hr hb (hx σ) I (.cons rfl (.cons ⟨t, rfl⟩ .nil)) q
  show wpAny (model X.prog X.w) X.A (richCompare .Eq (.int n t) (.ref a)) (EP X pins σ Q) X.xe s
  exact rc_back_eq I.kIn hr.units0 (T := "int") rfl PySem.F.slot_int_eq (fun Q' h' => dec_int_eq hob h') J hsub M.at_ M.fn hc
theorem op_cmpOS_le (M : Meth X.K C "__le__" f) (hnf : PySem.W.notFirst X.K C (.type "int") = true) (F : FnOk X.prog X.w X.K X.mg X.base CX k f fd ps sp) (hr : Room k X.A) (hb : Binds X.K fd ps []) (hx : ∀ σ, PassesAt CX X σ (E σ)) : OpS X (compareOp .LtE) (rCmpOS C sp E) := by
  intro pins s σ H x y v u Q I rx ry h
  obtain ⟨a, dx, fs, rfl, ha, hy, q⟩ := h
  obtain rfl : v = Value.ref a := rx
  obtain ⟨ox, od, J⟩ := inst_of I ha
  obtain ⟨m, hF⟩ := I.fr
  have hc := run_back (us := [.ref a, u]) (vs := [.ref a, y]) F hr hb (hx σ) I (.cons rfl (.cons ry .nil)) q
  show wpAny (model X.prog X.w) X.A (richCompare .LtE (.ref a) u) (EP X pins σ Q) X.xe s
  rcases hy with ⟨b, dy, gs, rfl, hb'⟩ | ⟨n, rfl⟩
  · obtain rfl : u = Value.ref b := ry
    obtain ⟨oy, od', J'⟩ := inst_of I hb'
    exact PySem.W.cmp_K (op := .LtE) (tb := .ref C) hr.units0 hF I.ok.mod.kin J J'.type (by simp [PySem.W.notFirst]) M.at_ M.fn hc
  · obtain ⟨t, rfl⟩ := ry
    exact PySem.W.cmp_K (op := .LtE) (tb := .type "int") hr.units0 hF I.ok.mod.kin J (PySem.W.Looks.of_pure rfl) hnf M.at_ M.fn hc
theorem op_cmpIS_le (M : Meth X.K C "__ge__" f) (hsub : PySem.W.subIn X.K (.ref C) (.type "int") = some false) (F : FnOk X.prog X.w X.K X.mg X.base CX k f fd ps sp) (hr : Room k X.A) (hb : Binds X.K fd ps []) (hx : ∀ σ, PassesAt CX X σ (E σ)) : OpS X (compareOp .LtE) (rCmpIS C sp E) := by
  intro pins s σ H x y v u Q I rx ry h
  obtain ⟨a, dx, fs, n, rfl, rfl, ha, q⟩ := h
  obtain rfl : u = Value.ref a := ry
  obtain ⟨t, rfl⟩ := rx
  obtain ⟨ox, od, J⟩ := inst_of I ha
  obtain ⟨_, _, _, hob, _⟩ := I.hok _ _ ha
  have hc := run_back (us := [.ref a, .int n t]) (vs := [.ref a, .int n]) F hr hb (hx σ) I (.cons rfl (.cons ⟨t, rfl⟩ .nil)) q
  show wpAny (model X.prog X.w) X.A (richCompare .LtE (.int n t) (.ref a)) (EP X pins σ Q) X.xe s
  exact rc_back_le I.kIn hr.units0 (T := "int") rfl PySem.F.slot_int_le (fun Q' h' => dec_int_le hob h') J hsub M.at_ M.fn hc
theorem op_cmpOS_ge (M : Meth X.K C "__ge__" f) (hnf : PySem.W.notFirst X.K C (.type "int") = true) (F : FnOk X.prog X.w X.K X.mg X.base CX k f fd ps sp) (hr : Room k X.A) (hb : Binds X.K fd ps []) (hx : ∀ σ, PassesAt CX X σ (E σ)) : OpS X (compareOp .GtE) (rCmpOS C sp E) := by
  intro pins s σ H x y v u Q I rx ry h
  obtain ⟨a, dx, fs, rfl, ha, hy, q⟩ := h
  obtain rfl : v = Value.ref a := rx
  obtain ⟨ox, od, J⟩ := inst_of I ha
  obtain ⟨m, hF⟩ := I.fr
  have hc := run_back (us := [.ref a, u]) (vs := [.ref a, y]) F hr hb (hx σ) I (.cons rfl (.cons ry .nil)) q
  show wpAny (model X.prog X.w) X.A (richCompare .GtE (.ref a) u) (EP X pins σ Q) X.xe s
  rcases hy with ⟨b, dy, gs, rfl, hb'⟩ | ⟨n, rfl⟩
  · obtain rfl : u = Value.ref b := ry
    obtain ⟨oy, od', J'⟩ := inst_of I hb'
    exact PySem.W.cmp_K (op := .GtE) (tb := .ref C) hr.units0 hF I.ok.mod.kin J J'.type (by simp [PySem.W.notFirst]) M.at_ M.fn hc
  · obtain ⟨t, rfl⟩ := ry
    exact PySem.W.cmp_K (op := .GtE) (tb := .type "int") hr.units0 hF I.ok.mod.kin J (PySem.W.Looks.of_pure rfl) hnf M.at_ M.fn hc
theorem op_cmpIS_ge (M : Meth X.K C "__le__" f) (hsub : PySem.W.subIn X.K (.ref C) (.type "int") = some false) (F : FnOk X.prog X.w X.K X.mg X.base CX k f fd ps sp) (hr : Room k X.A) (hb : Binds X.K fd ps []) (hx : ∀ σ, PassesAt CX X σ (E σ)) : OpS X (compareOp .GtE) (rCmpIS C sp E) := by
  intro pins s σ H x y v u Q I rx ry h
  obtain ⟨a, dx, fs, n, rfl, rfl, ha, q⟩ := h
  obtain rfl : u = Value.ref a := ry
  obtain ⟨t, rfl⟩ := rx
  obtain ⟨ox, od, J⟩ := inst_of I ha
  obtain ⟨_, _, _, hob, _⟩ := I.hok _ _ ha
  have hc := run_back (us := [.ref a, .int n t]) (vs := [.ref a, .int n]) F hr hb (hx σ) I (.cons rfl (.cons ⟨t, rfl⟩ .nil)) q
  show wpAny (model X.prog X.w) X.A (richCompare .GtE (.int n t) (.ref a)) (EP X pins σ Q) X.xe s
  exact rc_back_ge I.kIn hr.units0 (T := "int") rfl PySem.F.slot_int_ge (fun Q' h' => dec_int_ge hob h') J hsub M.at_ M.fn hc
end
end DO

namespace DO
open PySem PySem.Spec PyProof.Rows L2
section
variable {P : Program} {w : World} {K : PySem.W.Frag} {mg : Str → Option Value} {base : Heap}
/-- what the built-in int says of + and - -/
structure FrmA (K : PySem.W.Frag) : Prop where
  ia : PySem.W.findIn K (.type "int") "__add__" = some (some (.builtin "int.__add__"))
  ira : PySem.W.findIn K (.type "int") "__radd__" = some (some (.builtin "int.__radd__"))
  is_ : PySem.W.findIn K (.type "int") "__sub__" = some (some (.builtin "int.__sub__"))
  irs : PySem.W.findIn K (.type "int") "__rsub__" = some (some (.builtin "int.__rsub__"))
theorem kit_int {K : PySem.W.Frag} {C : Addr} : PySem.W.kitAny K (.type "int") [.type "int", .ref C] = some true := kitAny_cons (b := true) (kit_ty (by decide +kernel)) (fun z => by cases z) (fun _ => rfl)
theorem kit_frm {C : Addr} (T : Frm K mg C) : PySem.W.kitAny K (.ref C) [.type "int", .ref C] = some true := kitAny_cons (b := false) T.kJ (fun _ => kitAny_cons (b := true) T.kC (fun z => by cases z) (fun _ => rfl)) (fun z => by cases z)
/-! ### scaled terms -/
theorem mulT_nms {t : Int} (h : t ≠ 0) (ts : List Tm) : nms (mulT t ts) = nms ts := by
  unfold mulT nms
  rw [if_neg h, List.map_map]
  rfl
theorem mulT_ok {t : Int} {ts : List Tm} (o : TsOk ts) : TsOk (mulT t ts) := by
  by_cases h : t = 0
  · unfold mulT
    rw [if_pos h]
    exact ⟨List.nodup_nil, fun x hx => (by simp at hx), Nat.zero_le _⟩
  · refine ⟨by rw [mulT_nms h]; exact o.nd, ?_, ?_⟩
    · unfold mulT
      rw [if_neg h]
      intro x hx
      obtain ⟨y, hy, rfl⟩ := List.mem_map.mp hx
      exact o.ok y hy
    · unfold mulT
      rw [if_neg h, List.length_map]
      exact o.sz
theorem unl_mul {t : Int} (h : t ≠ 0) (ts us : List Tm) : unl ts (mulT t us) = unl ts us := by
  unfold unl mulT
  rw [if_neg h, List.find?_map, Option.map_map]
  rfl
def subS (ts us : List Tm) : List Tm := addS ts (mulT (-1) us)
theorem bd_mul1 {B : Nat} {n : Int} {ts : List Tm} (h : Bd B n ts) : Bd B (n * -1) (mulT (-1) ts) := by
  refine ⟨by have := h.1; omega, fun x hx => ?_⟩
  unfold mulT at hx
  rw [if_neg (by decide)] at hx
  obtain ⟨y, hy, rfl⟩ := List.mem_map.mp hx
  obtain ⟨h1, h2, h3⟩ := h.2 y hy
  refine ⟨?_, h2, h3⟩
  show (y.k * -1).natAbs < 2 ^ B
  omega
abbrev sRadd : Stmt := inClass sCls 2
theorem scRadd : FnScope ["self", "other"] ["self", "other"] (defScope sRadd) := ⟨rfl, rfl, rfl, by decide +kernel, rfl, by decide +kernel, by decide +kernel⟩
def spAddI (C : Addr) : Sp := fun vs H Q _ => ∃ (p : Addr) (n i : Int) (ts : List Tm), vs = [.ref p, .int i] ∧ FormAt C H p n ts ∧ TsOk ts ∧ ∀ r H', H r = none → Same H H' → FormAt C H' r (n + i) ts → Q (.ref r) H'
theorem ok_radd {C CU : Addr} (T : Frm K mg C) (MA : Mf K C "__add__" "Form.__add__" sAdd ["self", "other"]) (GA : FnOk P w K mg base (L2N.CX P w) 5 MA.f MA.fd ["self", "other"] (spAdd K C CU)) (MRA : Mf K C "__radd__" "Form.__radd__" sRadd ["self", "other"]) (TA : FrmA K) : FnOk P w K mg base (L2N.CX P w) 6 MRA.f MRA.fd ["self", "other"] (spAddI C) := by
  refine okN MRA.fn scRadd (fun vs H Q E h => ?_) (fun cdv A outer s H vs Q E hr h => ?_)
  · obtain ⟨p, n, i, ts, rfl, _⟩ := h
    rfl
  · obtain ⟨p, n, i, ts, rfl, hp, ho, k⟩ := h
    refine ⟨_, (pss_one (ps_ret (pe_opS (op_binIS (op := .Add) rfl rfl MA.me T.sf MRA.me.at_ (.inr ⟨_, rfl⟩) TA.ia TA.ira T.sI GA hr MA.bd (L2N.passAt (L2N.takes_of rfl rfl rfl rfl))) (pv 0) (pv 1)))), ?_⟩
    obtain ⟨dx, t, us, h1, h2, h3⟩ := id hp
    exact ⟨_, rfl, _, rfl, p, dx, _, i, rfl, rfl, h1, p, n, ts, _, rfl, hp, ho, .inl ⟨i, rfl, k⟩⟩
abbrev sSub : Stmt := inClass sCls 3
theorem scSub : FnScope ["self", "other"] ["self", "other"] (defScope sSub) := ⟨rfl, rfl, rfl, by decide +kernel, rfl, by decide +kernel, by decide +kernel⟩
def spSub (C CU : Addr) : Sp := fun vs H Q E => ∃ (p : Addr) (n : Int) (ts : List Tm) (y : V), vs = [.ref p, y] ∧ FormAt C H p n ts ∧ TsOk ts ∧
  ((∃ i : Int, y = .int i ∧ ∀ r H', H r = none → Same H H' → FormAt C H' r (n - i) ts → Q (.ref r) H') ∨
   ∃ (q : Addr) (m : Int) (us : List Tm), y = .ref q ∧ FormAt C H q m us ∧ TsOk us ∧ Bd 9000 m us ∧ (∀ w, unl ts us = some w → Thrown E CU H [("name", .str w)]) ∧ (unl ts us = none → ∀ r H', H r = none → Same H H' → FormAt C H' r (n - m) (subS ts us) → Q (.ref r) H'))
theorem ok_sub {C CU : Addr} (T : Frm K mg C) (MS : Mf K C "__sub__" "Form.__sub__" sSub ["self", "other"]) (MA : Mf K C "__add__" "Form.__add__" sAdd ["self", "other"]) (GA : FnOk P w K mg base (L2N.CX P w) 5 MA.f MA.fd ["self", "other"] (spAdd K C CU)) (MRA : Mf K C "__radd__" "Form.__radd__" sRadd ["self", "other"]) (TA : FrmA K) (MM : Mf K C "__mul__" "Form.__mul__" sMul ["self", "other"]) (GM : FnOk P w K mg base CX0 4 MM.f MM.fd ["self", "other"] (spMul C)) (MR : Mf K C "__rmul__" "Form.__rmul__" sRmu ["self", "other"]) (TM : FrmM K C) (mis : mg "isinstance" = none) (mint : mg "int" = none) : FnOk P w K mg base (L2N.CX P w) 6 MS.f MS.fd ["self", "other"] (spSub C CU) := by
  refine okN MS.fn scSub (fun vs H Q E h => ?_) (fun cdv A outer s H vs Q E hr h => ?_)
  · obtain ⟨p, n, ts, y, rfl, _⟩ := h
    rfl
  · obtain ⟨p, n, ts, y, rfl, hp, ho, hy⟩ := h
    have hr4 : Room 4 _ := hr.mono (by decide)
    refine ⟨_, (pss_cons (ps_if (pt_not (pt_val (pe_callB call_isiT (by rfl) mis (by decide +kernel) (pa_cons (pv 1) (pa_cons (pe_tup (pa_cons (pe_bltn (v := .ty "int") (by rfl) mint (by decide +kernel) rfl) (pa_cons (pe_glob (v := .ref C) (by rfl) T.mgC rfl) pa_nil))) pa_nil)))))
      (pss_one (ps_never))
      pss_nil)
      (pss_one (ps_ret (pe_opS (OpS.or (op_binOS (op := .Add) rfl MA.me T.sf GA hr MA.bd (L2N.passAt (L2N.takes_of rfl rfl rfl rfl))) (op_binIS (op := .Add) rfl rfl MA.me T.sf MRA.me.at_ (.inr ⟨_, rfl⟩) TA.ia TA.ira T.sI GA hr MA.bd (L2N.passAt (L2N.takes_of rfl rfl rfl rfl)))) (pv 0) (pe_opS (OpS.or (OpS.of op_mulL) (OpS.of (op_binI (op := .Mult) rfl rfl MM.me T.sf MR.me.at_ (.inr ⟨_, rfl⟩) TM.im TM.ir T.sI GM hr4 MM.bd pass0))) (pv 1) (pe_un un_neg pe_int)))))), ?_⟩
    obtain ⟨dx, t, us, h1, h2, h3⟩ := id hp
    rcases hy with ⟨i, rfl, k⟩ | ⟨q, m, vs', rfl, hq, hv, hb, kx, k⟩
    · refine ⟨_, rfl, (by show 2 ≤ sizeLine; decide), fun tp ntp => ⟨_, tp, _, _, _, true, rfl, upd_same, .cons (.ty _) (.cons (.own _) .nil), .base (.int i), kit_int, true, rfl, ?_⟩⟩
      refine iteF' rfl ?_
      have s1 := same_upd (o := .tup [V.ty "int", V.ref C]) ntp
      refine ⟨_, rfl, _, rfl, 1, rfl, .inl ⟨i, -1, rfl, rfl, .inr ⟨by decide, by decide⟩, fun z ez => ?_⟩⟩
      refine .inr ⟨p, dx, _, z, rfl, rfl, s1 _ _ h1, p, n, ts, _, rfl, hp.keep s1, ho, .inl ⟨z, rfl, fun r H' nr s2 hf => k r H' (s1.free nr) (s1.trans s2) ?_⟩⟩
      have e : n + z = n - i := by omega
      exact e ▸ hf
    · obtain ⟨dx', t', us', h1', h2', h3'⟩ := id hq
      refine ⟨_, rfl, (by show 2 ≤ sizeLine; decide), fun tp ntp => ⟨_, tp, _, _, _, true, rfl, upd_same, .cons (.ty _) (.cons (.own _) .nil), TyX_frm T (hq.keep (same_upd ntp)), kit_frm T, true, rfl, ?_⟩⟩
      refine iteF' rfl ?_
      have s1 := same_upd (o := .tup [V.ty "int", V.ref C]) ntp
      refine ⟨_, rfl, _, rfl, 1, rfl, .inr ⟨q, dx', _, -1, rfl, rfl, s1 _ _ h1', q, m, -1, vs', rfl, hq.keep s1, Nat.le_trans hv.sz (by decide), hb.mono (by decide), by decide +kernel, fun g H2 ng s2 hg => ?_⟩⟩
      have s12 := s1.trans s2
      obtain ⟨dg', tg, ug, g1, g2, g3⟩ := id hg
      refine .inl ⟨p, dx, _, g, dg', _, rfl, rfl, s12 _ _ h1, g1, p, n, ts, _, rfl, hp.keep s12, ho, .inr ⟨g, _, _, rfl, hg, mulT_ok hv, ?_, ?_⟩⟩
      · rw [unl_mul (by decide)]
        exact fun w hw => (kx w hw).same s12
      · rw [unl_mul (by decide)]
        refine fun hn r H' nr s3 hf => k hn r H' (s12.free nr) (s12.trans s3) ?_
        have e : n + m * -1 = n - m := by omega
        exact e ▸ hf
abbrev sRsub : Stmt := inClass sCls 4
theorem scRsub : FnScope ["self", "other"] ["self", "other"] (defScope sRsub) := ⟨rfl, rfl, rfl, by decide +kernel, rfl, by decide +kernel, by decide +kernel⟩
def spRsub (C : Addr) : Sp := fun vs H Q _ => ∃ (p : Addr) (n i : Int) (ts : List Tm), vs = [.ref p, .int i] ∧ FormAt C H p n ts ∧ TsOk ts ∧ Bd 9000 n ts ∧ ∀ r H', H r = none → Same H H' → FormAt C H' r (i - n) (mulT (-1) ts) → Q (.ref r) H'
theorem ok_rsub {C CU : Addr} (T : Frm K mg C) (MRS : Mf K C "__rsub__" "Form.__rsub__" sRsub ["self", "other"]) (MA : Mf K C "__add__" "Form.__add__" sAdd ["self", "other"]) (GA : FnOk P w K mg base (L2N.CX P w) 5 MA.f MA.fd ["self", "other"] (spAdd K C CU)) (MRA : Mf K C "__radd__" "Form.__radd__" sRadd ["self", "other"]) (TA : FrmA K) (MM : Mf K C "__mul__" "Form.__mul__" sMul ["self", "other"]) (GM : FnOk P w K mg base CX0 4 MM.f MM.fd ["self", "other"] (spMul C)) (MR : Mf K C "__rmul__" "Form.__rmul__" sRmu ["self", "other"]) (TM : FrmM K C) : FnOk P w K mg base (L2N.CX P w) 6 MRS.f MRS.fd ["self", "other"] (spRsub C) := by
  refine okN MRS.fn scRsub (fun vs H Q E h => ?_) (fun cdv A outer s H vs Q E hr h => ?_)
  · obtain ⟨p, n, i, ts, rfl, _⟩ := h
    rfl
  · obtain ⟨p, n, i, ts, rfl, hp, ho, hb, k⟩ := h
    have hr4 : Room 4 _ := hr.mono (by decide)
    refine ⟨_, (pss_one (ps_ret (pe_opS (op_binIS (op := .Add) rfl rfl MA.me T.sf MRA.me.at_ (.inr ⟨_, rfl⟩) TA.ia TA.ira T.sI GA hr MA.bd (L2N.passAt (L2N.takes_of rfl rfl rfl rfl))) (pe_op (op_binI (op := .Mult) rfl rfl MM.me T.sf MR.me.at_ (.inr ⟨_, rfl⟩) TM.im TM.ir T.sI GM hr4 MM.bd pass0) (pv 0) (pe_un un_neg pe_int)) (pv 1)))), ?_⟩
    obtain ⟨dx, t, us, h1, h2, h3⟩ := id hp
    refine ⟨_, rfl, 1, rfl, p, dx, _, -1, rfl, rfl, h1, p, n, -1, ts, rfl, hp, Nat.le_trans ho.sz (by decide), hb.mono (by decide), by decide +kernel, fun g H2 ng s2 hg => ?_⟩
    obtain ⟨dg', tg, ug, g1, g2, g3⟩ := id hg
    refine ⟨_, rfl, g, dg', _, i, rfl, rfl, g1, g, n * -1, _, _, rfl, hg, mulT_ok ho, .inl ⟨i, rfl, fun r H' nr s3 hf => k r H' (s2.free nr) (s2.trans s3) ?_⟩⟩
    have e : n * -1 + i = i - n := by omega
    exact e ▸ hf
end
end DO

namespace DO
open PySem PySem.Spec PyProof.Rows L2
section
variable {P : Program} {w : World} {K : PySem.W.Frag} {mg : Str → Option Value} {base : Heap}
/-! ### what the terms of a sum say of a name -/
theorem kOf_none {M : List Tm} {w : Str} (h : getT M w = none) : kOf M w = 0 := by
  unfold kOf
  rw [h]
theorem kOf_some {M : List Tm} {w : Str} {x : Tm} (h : getT M w = some x) : kOf M w = x.k := by
  unfold kOf
  rw [h]
theorem addP_get (M : List Tm) (x : Tm) (w : Str) : getT (addP M x) w = if w = x.nm then some ⟨x.nm, kOf M x.nm + x.k, x.lo, x.hi⟩ else getT M w := getT_put M _ w
theorem getT_cons (x : Tm) (r : List Tm) (w : Str) : getT (x :: r) w = if w = x.nm then some x else getT r w := by
  unfold getT
  rw [List.find?_cons]
  by_cases e : w = x.nm
  · rw [if_pos e, decide_eq_true e.symm]
  · rw [if_neg e, decide_eq_false fun z => e z.symm]
theorem foldP_get (w : Str) : ∀ (us M : List Tm), (nms us).Nodup → getT (us.foldl addP M) w = (match getT us w with
    | none => getT M w
    | some u => some ⟨w, kOf M w + u.k, u.lo, u.hi⟩)
  | [], M, _ => rfl
  | x :: r, M, h => by
    obtain ⟨h1, h2⟩ := List.nodup_cons.mp (show (x.nm :: nms r).Nodup from h)
    rw [List.foldl_cons, foldP_get w r (addP M x) h2, getT_cons]
    by_cases e : w = x.nm
    · rw [if_pos e]
      have hr : getT r w = none := getT_none.mpr (e ▸ h1)
      rw [hr, addP_get, if_pos e]
      subst e
      rfl
    · rw [if_neg e, addP_get, if_neg e]
      have hk : kOf (addP M x) w = kOf M w := by
        unfold kOf
        rw [addP_get, if_neg e]
      rw [hk]
theorem addF_self_get {ts : List Tm} (h : (nms ts).Nodup) (w : Str) : getT (addF ts) w = getT ts w := by
  unfold addF
  rw [foldP_get w ts [] h]
  cases e : getT ts w with
  | none => rfl
  | some u =>
    have hn := getT_nm e
    show some (Tm.mk w (kOf [] w + u.k) u.lo u.hi) = some u
    have : kOf ([] : List Tm) w = 0 := rfl
    rw [this, Int.zero_add, ← hn]
theorem addF_get {ts us : List Tm} (h : (nms ts).Nodup) (h' : (nms us).Nodup) (w : Str) : getT (addF (ts ++ us)) w = (match getT us w with
    | none => getT ts w
    | some u => some ⟨w, kOf ts w + u.k, u.lo, u.hi⟩) := by
  unfold addF
  rw [List.foldl_append, foldP_get w us _ h']
  have e := addF_self_get h w
  unfold addF at e
  have ek : kOf (ts.foldl addP []) w = kOf ts w := by
    unfold kOf
    rw [e]
  rw [e, ek]
theorem getT_filter {M : List Tm} {p : Tm → Bool} (h : (nms M).Nodup) (w : Str) : getT (M.filter p) w = (getT M w).filter p := by
  induction M with
  | nil => rfl
  | cons x r ih =>
    obtain ⟨h1, h2⟩ := List.nodup_cons.mp (show (x.nm :: nms r).Nodup from h)
    rw [List.filter_cons, getT_cons]
    by_cases e : w = x.nm
    · have hr : getT r w = none := getT_none.mpr (e ▸ h1)
      rw [if_pos e]
      cases q : p x with
      | true =>
        rw [if_pos rfl, getT_cons, if_pos e]
        simp [Option.filter, q]
      | false =>
        rw [if_neg (by decide), ih h2, hr]
        simp [Option.filter, q]
    · rw [if_neg e]
      cases q : p x with
      | true => rw [if_pos rfl, getT_cons, if_neg e, ih h2]
      | false => rw [if_neg (by decide), ih h2]
theorem nms_filter {M : List Tm} {p : Tm → Bool} {R : Str → Str → Prop} (h : (nms M).Pairwise R) : (nms (M.filter p)).Pairwise R := by
  unfold nms at *
  rw [List.pairwise_map] at *
  exact h.filter p
theorem addS_up {ts us : List Tm} : Up (nms (addS ts us)) := nms_filter (srt_up (addF_inv _).1)
theorem addS_get {ts us : List Tm} (h : (nms ts).Nodup) (h' : (nms us).Nodup) (w : Str) : getT (addS ts us) w = (match getT us w with
    | none => getT ts w
    | some u => some ⟨w, kOf ts w + u.k, u.lo, u.hi⟩).filter fun x => decide (x.k ≠ 0) := by
  unfold addS
  rw [getT_filter (srt_up (addF_inv _).1).nd, get_srt (addF_inv _).1, addF_get h h']
/-- a term of a sum -/
theorem addS_mem {ts us : List Tm} (h : (nms ts).Nodup) (h' : (nms us).Nodup) {x : Tm} (hx : x ∈ addS ts us) : x.k ≠ 0 ∧ ((x ∈ ts ∧ getT us x.nm = none) ∨ ∃ u ∈ us, u.nm = x.nm ∧ x.lo = u.lo ∧ x.hi = u.hi ∧ x.k = kOf ts x.nm + u.k) := by
  have e := getT_mem addS_up.nd hx
  rw [addS_get h h'] at e
  cases q : getT us x.nm with
  | none =>
    rw [q] at e
    obtain ⟨e1, e2⟩ := Option.filter_eq_some_iff.mp e
    exact ⟨of_decide_eq_true e2, .inl ⟨getT_in e1, rfl⟩⟩
  | some u =>
    rw [q] at e
    obtain ⟨e1, e2⟩ := Option.filter_eq_some_iff.mp e
    have e3 := Option.some.inj e1
    refine ⟨of_decide_eq_true e2, .inr ⟨u, getT_in q, getT_nm q, ?_, ?_, ?_⟩⟩
    · exact (congrArg Tm.lo e3).symm
    · exact (congrArg Tm.hi e3).symm
    · exact (congrArg Tm.k e3).symm
theorem kOf_bd {B : Nat} {n : Int} {ts : List Tm} (h : Bd B n ts) (w : Str) : (kOf ts w).natAbs < 2 ^ B := by
  cases e : getT ts w with
  | none =>
    rw [kOf_none e]
    exact Nat.two_pow_pos B
  | some x =>
    rw [kOf_some e]
    exact (h.2 x (getT_in e)).1
theorem bd_add {B : Nat} {n m : Int} {ts us : List Tm} (o : (nms ts).Nodup) (o' : (nms us).Nodup) (h : Bd B n ts) (h' : Bd B m us) : Bd (B + 1) (n + m) (addS ts us) := by
  have e : 2 ^ (B + 1) = 2 ^ B + 2 ^ B := by rw [Nat.pow_succ]; omega
  refine ⟨by have := h.1; have := h'.1; omega, fun x hx => ?_⟩
  obtain ⟨_, ⟨h1, _⟩ | ⟨u, hu, e1, e2, e3, e4⟩⟩ := addS_mem o o' hx
  · obtain ⟨a, b, c⟩ := h.2 x h1
    omega
  · obtain ⟨a, b, c⟩ := h'.2 u hu
    have := kOf_bd h x.nm
    rw [e2, e3, e4]
    omega
theorem bd_sub {B : Nat} {n m : Int} {ts us : List Tm} (o : (nms ts).Nodup) (o' : TsOk us) (h : Bd B n ts) (h' : Bd B m us) : Bd (B + 1) (n - m) (subS ts us) := by
  have := bd_add o (mulT_ok (t := -1) o').nd h (bd_mul1 h')
  have e : n + m * -1 = n - m := by omega
  exact e ▸ this
theorem addS_len (ts us : List Tm) : (addS ts us).length ≤ ts.length + us.length := by
  unfold addS
  refine Nat.le_trans (List.length_filter_le _ _) ?_
  have h1 : (srt (addF (ts ++ us))).length = (addF (ts ++ us)).length := by
    have := congrArg List.length (srt_nms (addF (ts ++ us)))
    unfold nms at this
    rw [List.length_map, (sortS_perm _).length_eq, List.length_map] at this
    exact this
  have h2 := (addF_inv (ts ++ us)).2
  rw [List.length_append] at h2
  omega
theorem mulT_len (t : Int) (ts : List Tm) : (mulT t ts).length ≤ ts.length := by
  unfold mulT
  split
  · exact Nat.zero_le _
  · rw [List.length_map]
    exact Nat.le_refl _
theorem subS_len (ts us : List Tm) : (subS ts us).length ≤ ts.length + us.length := by
  have h1 := addS_len ts (mulT (-1) us)
  have h2 := mulT_len (-1) us
  unfold subS
  omega
abbrev sLe : Stmt := inClass sCls 9
theorem scLe : FnScope ["self", "other"] ["self", "other"] (defScope sLe) := ⟨rfl, rfl, rfl, by decide +kernel, rfl, by decide +kernel, by decide +kernel⟩
def spLe (C CU : Addr) : Sp := fun vs H Q E => ∃ (p : Addr) (n : Int) (ts : List Tm) (y : V), vs = [.ref p, y] ∧ FormAt C H p n ts ∧ TsOk ts ∧ Bd 9000 n ts ∧
  ((∃ i : Int, y = .int i ∧ i.natAbs < 2 ^ 9000 ∧ ∀ H', Same H H' → Q (.bl (decide ((n - i) + (ts.map mxT).sum ≤ 0))) H') ∨
   ∃ (q : Addr) (m : Int) (us : List Tm), y = .ref q ∧ FormAt C H q m us ∧ TsOk us ∧ Bd 9000 m us ∧ (∀ w, unl ts us = some w → Thrown E CU H [("name", .str w)]) ∧ (unl ts us = none → ∀ H', Same H H' → Q (.bl (decide ((n - m) + ((subS ts us).map mxT).sum ≤ 0))) H'))
theorem ok_le {C CU : Addr} (T : Frm K mg C) (ML : Mf K C "__le__" "Form.__le__" sLe ["self", "other"]) (MS : Mf K C "__sub__" "Form.__sub__" sSub ["self", "other"]) (GS : FnOk P w K mg base (L2N.CX P w) 6 MS.f MS.fd ["self", "other"] (spSub C CU)) (MRS : Mf K C "__rsub__" "Form.__rsub__" sRsub ["self", "other"]) (TA : FrmA K)
    {pA gA : Addr} {fdL : FuncData} (PO : PropOf K C "most" pA gA) (GL : FnOk P w K mg base CX0 1 gA fdL ["self"] (spEnd C mxT)) (bL : Binds K fdL ["self"] []) (mis : mg "isinstance" = none) (mint : mg "int" = none) : FnOk P w K mg base (L2N.CX P w) 7 ML.f ML.fd ["self", "other"] (spLe C CU) := by
  refine okN ML.fn scLe (fun vs H Q E h => ?_) (fun cdv A outer s H vs Q E hr h => ?_)
  · obtain ⟨p, n, ts, y, rfl, _⟩ := h
    rfl
  · obtain ⟨p, n, ts, y, rfl, hp, ho, hbd, hy⟩ := h
    have hr6 : Room 6 _ := hr
    have hr1 : Room (1 + 1) _ := hr.mono (by decide)
    refine ⟨_, (pss_cons (ps_if (pt_not (pt_val (pe_callB call_isiT (by rfl) mis (by decide +kernel) (pa_cons (pv 1) (pa_cons (pe_tup (pa_cons (pe_bltn (v := .ty "int") (by rfl) mint (by decide +kernel) rfl) (pa_cons (pe_glob (v := .ref C) (by rfl) T.mgC rfl) pa_nil))) pa_nil)))))
      (pss_one (ps_never))
      pss_nil)
      (pss_one (ps_ret (pe_cmpR op_le (pe_prop (pe_opS (OpS.or (op_binOS (op := .Sub) rfl MS.me T.sf GS hr6 MS.bd (L2N.passAt (L2N.takes_of rfl rfl rfl rfl))) (op_binIS (op := .Sub) rfl rfl MS.me T.sf MRS.me.at_ (.inr ⟨_, rfl⟩) TA.is_ TA.irs T.sI GS hr6 MS.bd (L2N.passAt (L2N.takes_of rfl rfl rfl rfl)))) (pv 0) (pv 1)) T.cl PO GL hr1 bL .nil pass0 rfl) pe_int (nomark _))))), ?_⟩
    obtain ⟨dx, t, us, h1, h2, h3⟩ := id hp
    rcases hy with ⟨i, rfl, hi, k⟩ | ⟨q, m, vs', rfl, hq, hv, hb, kx, k⟩
    · refine ⟨_, rfl, (by show 2 ≤ sizeLine; decide), fun tp ntp => ⟨_, tp, _, _, _, true, rfl, upd_same, .cons (.ty _) (.cons (.own _) .nil), .base (.int i), kit_int, true, rfl, ?_⟩⟩
      refine iteF' rfl ?_
      have s1 := same_upd (o := .tup [V.ty "int", V.ref C]) ntp
      refine ⟨_, rfl, _, rfl, .inr ⟨p, dx, _, i, rfl, rfl, s1 _ _ h1, p, n, ts, _, rfl, hp.keep s1, ho, .inl ⟨i, rfl, fun r H' nr s2 hf => ?_⟩⟩⟩
      obtain ⟨dg', tg, ug, g1, g2, g3⟩ := id hf
      refine ⟨r, dg', _, rfl, g1, r, n - i, ts, rfl, hf, Nat.le_trans ho.sz (by decide), ⟨?_, (hbd.mono (by decide)).2⟩, fun H3 s3 => ⟨_, _, rfl, rfl, k H3 ((s1.trans s2).trans s3)⟩⟩
      have e : (2 : Nat) ^ 9000 + 2 ^ 9000 ≤ 2 ^ 10000 := by decide +kernel
      have := hbd.1
      generalize (2 : Nat) ^ 9000 = z9 at e this hi
      generalize (2 : Nat) ^ 10000 = z10 at e ⊢
      omega
    · obtain ⟨dx', t', us', h1', h2', h3'⟩ := id hq
      refine ⟨_, rfl, (by show 2 ≤ sizeLine; decide), fun tp ntp => ⟨_, tp, _, _, _, true, rfl, upd_same, .cons (.ty _) (.cons (.own _) .nil), TyX_frm T (hq.keep (same_upd ntp)), kit_frm T, true, rfl, ?_⟩⟩
      refine iteF' rfl ?_
      have s1 := same_upd (o := .tup [V.ty "int", V.ref C]) ntp
      refine ⟨_, rfl, _, rfl, .inl ⟨p, dx, _, q, dx', _, rfl, rfl, s1 _ _ h1, s1 _ _ h1', p, n, ts, _, rfl, hp.keep s1, ho, .inr ⟨q, m, vs', rfl, hq.keep s1, hv, hb, fun w hw => (kx w hw).same s1, fun hn r H' nr s2 hf => ?_⟩⟩⟩
      obtain ⟨dg', tg, ug, g1, g2, g3⟩ := id hf
      refine ⟨r, dg', _, rfl, g1, r, n - m, _, rfl, hf, ?_, (bd_sub ho.nd hv hbd hb).mono (by decide), fun H3 s3 => ⟨_, _, rfl, rfl, k hn H3 ((s1.trans s2).trans s3)⟩⟩
      have h4 := subS_len ts vs'
      have h5 := ho.sz
      have h6 := hv.sz
      omega
abbrev sGe : Stmt := inClass sCls 10
theorem scGe : FnScope ["self", "other"] ["self", "other"] (defScope sGe) := ⟨rfl, rfl, rfl, by decide +kernel, rfl, by decide +kernel, by decide +kernel⟩
def spGe (C CU : Addr) : Sp := fun vs H Q E => ∃ (p : Addr) (n : Int) (ts : List Tm) (y : V), vs = [.ref p, y] ∧ FormAt C H p n ts ∧ TsOk ts ∧ Bd 9000 n ts ∧
  ((∃ i : Int, y = .int i ∧ i.natAbs < 2 ^ 9000 ∧ ∀ H', Same H H' → Q (.bl (decide ((n - i) + (ts.map mnT).sum ≥ 0))) H') ∨
   ∃ (q : Addr) (m : Int) (us : List Tm), y = .ref q ∧ FormAt C H q m us ∧ TsOk us ∧ Bd 9000 m us ∧ (∀ w, unl ts us = some w → Thrown E CU H [("name", .str w)]) ∧ (unl ts us = none → ∀ H', Same H H' → Q (.bl (decide ((n - m) + ((subS ts us).map mnT).sum ≥ 0))) H'))
theorem ok_ge {C CU : Addr} (T : Frm K mg C) (ML : Mf K C "__ge__" "Form.__ge__" sGe ["self", "other"]) (MS : Mf K C "__sub__" "Form.__sub__" sSub ["self", "other"]) (GS : FnOk P w K mg base (L2N.CX P w) 6 MS.f MS.fd ["self", "other"] (spSub C CU)) (MRS : Mf K C "__rsub__" "Form.__rsub__" sRsub ["self", "other"]) (TA : FrmA K)
    {pA gA : Addr} {fdL : FuncData} (PO : PropOf K C "least" pA gA) (GL : FnOk P w K mg base CX0 1 gA fdL ["self"] (spEnd C mnT)) (bL : Binds K fdL ["self"] []) (mis : mg "isinstance" = none) (mint : mg "int" = none) : FnOk P w K mg base (L2N.CX P w) 7 ML.f ML.fd ["self", "other"] (spGe C CU) := by
  refine okN ML.fn scGe (fun vs H Q E h => ?_) (fun cdv A outer s H vs Q E hr h => ?_)
  · obtain ⟨p, n, ts, y, rfl, _⟩ := h
    rfl
  · obtain ⟨p, n, ts, y, rfl, hp, ho, hbd, hy⟩ := h
    have hr6 : Room 6 _ := hr
    have hr1 : Room (1 + 1) _ := hr.mono (by decide)
    refine ⟨_, (pss_cons (ps_if (pt_not (pt_val (pe_callB call_isiT (by rfl) mis (by decide +kernel) (pa_cons (pv 1) (pa_cons (pe_tup (pa_cons (pe_bltn (v := .ty "int") (by rfl) mint (by decide +kernel) rfl) (pa_cons (pe_glob (v := .ref C) (by rfl) T.mgC rfl) pa_nil))) pa_nil)))))
      (pss_one (ps_never))
      pss_nil)
      (pss_one (ps_ret (pe_cmpR op_ge (pe_prop (pe_opS (OpS.or (op_binOS (op := .Sub) rfl MS.me T.sf GS hr6 MS.bd (L2N.passAt (L2N.takes_of rfl rfl rfl rfl))) (op_binIS (op := .Sub) rfl rfl MS.me T.sf MRS.me.at_ (.inr ⟨_, rfl⟩) TA.is_ TA.irs T.sI GS hr6 MS.bd (L2N.passAt (L2N.takes_of rfl rfl rfl rfl)))) (pv 0) (pv 1)) T.cl PO GL hr1 bL .nil pass0 rfl) pe_int (nomark _))))), ?_⟩
    obtain ⟨dx, t, us, h1, h2, h3⟩ := id hp
    rcases hy with ⟨i, rfl, hi, k⟩ | ⟨q, m, vs', rfl, hq, hv, hb, kx, k⟩
    · refine ⟨_, rfl, (by show 2 ≤ sizeLine; decide), fun tp ntp => ⟨_, tp, _, _, _, true, rfl, upd_same, .cons (.ty _) (.cons (.own _) .nil), .base (.int i), kit_int, true, rfl, ?_⟩⟩
      refine iteF' rfl ?_
      have s1 := same_upd (o := .tup [V.ty "int", V.ref C]) ntp
      refine ⟨_, rfl, _, rfl, .inr ⟨p, dx, _, i, rfl, rfl, s1 _ _ h1, p, n, ts, _, rfl, hp.keep s1, ho, .inl ⟨i, rfl, fun r H' nr s2 hf => ?_⟩⟩⟩
      obtain ⟨dg', tg, ug, g1, g2, g3⟩ := id hf
      refine ⟨r, dg', _, rfl, g1, r, n - i, ts, rfl, hf, Nat.le_trans ho.sz (by decide), ⟨?_, (hbd.mono (by decide)).2⟩, fun H3 s3 => ⟨_, _, rfl, rfl, k H3 ((s1.trans s2).trans s3)⟩⟩
      have e : (2 : Nat) ^ 9000 + 2 ^ 9000 ≤ 2 ^ 10000 := by decide +kernel
      have := hbd.1
      generalize (2 : Nat) ^ 9000 = z9 at e this hi
      generalize (2 : Nat) ^ 10000 = z10 at e ⊢
      omega
    · obtain ⟨dx', t', us', h1', h2', h3'⟩ := id hq
      refine ⟨_, rfl, (by show 2 ≤ sizeLine; decide), fun tp ntp => ⟨_, tp, _, _, _, true, rfl, upd_same, .cons (.ty _) (.cons (.own _) .nil), TyX_frm T (hq.keep (same_upd ntp)), kit_frm T, true, rfl, ?_⟩⟩
      refine iteF' rfl ?_
      have s1 := same_upd (o := .tup [V.ty "int", V.ref C]) ntp
      refine ⟨_, rfl, _, rfl, .inl ⟨p, dx, _, q, dx', _, rfl, rfl, s1 _ _ h1, s1 _ _ h1', p, n, ts, _, rfl, hp.keep s1, ho, .inr ⟨q, m, vs', rfl, hq.keep s1, hv, hb, fun w hw => (kx w hw).same s1, fun hn r H' nr s2 hf => ?_⟩⟩⟩
      obtain ⟨dg', tg, ug, g1, g2, g3⟩ := id hf
      refine ⟨r, dg', _, rfl, g1, r, n - m, _, rfl, hf, ?_, (bd_sub ho.nd hv hbd hb).mono (by decide), fun H3 s3 => ⟨_, _, rfl, rfl, k hn H3 ((s1.trans s2).trans s3)⟩⟩
      have h4 := subS_len ts vs'
      have h5 := ho.sz
      have h6 := hv.sz
      omega
end
end DO

namespace DO
open PySem PySem.Spec PyProof.Rows L2
section
variable {P : Program} {w : World} {K : PySem.W.Frag} {mg : Str → Option Value} {base : Heap}
/-- what the module names.py has written -/
structure Nam (mg : Str → Option Value) : Prop where
  fr : ∃ t, mg "FRAME" = some (.str "frame" t)
  fs : ∃ t, mg "FIRST_SIGNS" = some (.str az t)
  ls : ∃ t, mg "LATER_SIGNS" = some (.str azn t)
  ln : ∃ t, mg "LONGEST_NAME" = some (.int 12 t)
def isNm (ds : List Nat) : Bool := match ds with
  | [] => false
  | c :: r => decide ((c :: r).length ≤ 12) && decide (c ∈ az.cps.toList) && (c :: r).all fun x => decide (x ∈ azn.cps.toList)
theorem isNm_cons (c : Nat) (r : List Nat) : isNm (c :: r) = (decide ((c :: r).length ≤ 12) && decide (c ∈ az.cps.toList) && (c :: r).all fun x => decide (x ∈ azn.cps.toList)) := rfl
abbrev sIsNm : Stmt := top 18
theorem scIsNm : FnScope ["text", "char"] ["text"] (defScope sIsNm) := ⟨rfl, rfl, rfl, by decide +kernel, rfl, by decide +kernel, by decide +kernel⟩
def spIsNm : Sp := fun vs H Q _ => ∃ ds : List Nat, vs = [.str (tx ds)] ∧ ds.length ≤ 900 ∧ ∀ H', Same H H' → Q (.bl (isNm ds)) H'
theorem ok_isNm (D : Df K mg "is_name" sIsNm ["text"]) (N : Nam mg) (mln : mg "len" = none) (mal : mg "all" = none) : FnOk P w K mg base CX0 1 D.f D.fd ["text"] spIsNm := by
  obtain ⟨tls, hls⟩ := N.ls
  obtain ⟨tfs, hfs⟩ := N.fs
  obtain ⟨tln, hln⟩ := N.ln
  refine D.fn.ok scIsNm (fun vs H Q E h => ?_) (fun cdv A outer s H vs Q E hr h => ?_)
  · obtain ⟨ds, rfl, _⟩ := h
    rfl
  · obtain ⟨ds, rfl, hsz, k⟩ := h
    refine ⟨_, (pss_cons (ps_if (PW.pt (pw_or (pt_not (pt_chain op_le op_le pe_int (pe_callB call_len_str (by rfl) mln PySem.boot_len (pa_cons (pv 0) pa_nil)) (pe_glob (v := .int 12) (by rfl) hln ⟨_, rfl⟩))) (pw_or1 (pt_cmpR op_notIn_sign (pe_ix ix_str (pv 0) pe_int (fun _ _ => rfl)) (pe_glob (v := .str az) (by rfl) hfs ⟨_, rfl⟩) rfl))))
      (pss_one (ps_ret pe_bl))
      pss_nil)
      (pss_one (ps_ret (pe_callB (cr_all rfl) (by rfl) mal (by decide +kernel) (pa_cons (pe_lc (own := [("char", 1)]) (g := gName 1) (tt := tYes) rfl scIsNm.nd (pi_str (pv 0)) (blkOk_by (N := ["text", "char"]) (sc := defScope sIsNm) (by decide +kernel)) (fun _ _ _ _ _ => pg_name (i := 1) scIsNm.nd rfl (Or.inl rfl)) (fun _ _ _ _ _ => pts_nil) (fun _ _ _ _ _ => (pe_cmpR op_in_sign (pv 1) (pe_glob (v := .str azn) (by rfl) hls ⟨_, rfl⟩) rfl))) pa_nil))))), ?_⟩
    have hlen : (tx ds).length = ds.length := tx_len ds
    have fin : ∀ D, H D = none → ∀ b : Bool, (ds.all fun x => decide (x ∈ azn.cps.toList)) = b → ∃ (a : Addr) (bs : List Bool), [V.ref D] = [V.ref a] ∧ SqL K (upd H D (.lst ((ds.map fun x => decide (x ∈ azn.cps.toList)).map V.bl))) a (bs.map V.bl) ∧ (b = isNm ds → Q (.bl (bs.all id)) (upd H D (.lst ((ds.map fun x => decide (x ∈ azn.cps.toList)).map V.bl)))) := fun D nD b eb => by
      refine ⟨D, _, rfl, sql_of upd_same, fun e => ?_⟩
      have e2 : (ds.map fun x => decide (x ∈ azn.cps.toList)).all id = isNm ds := by
        rw [List.all_map, ← e, ← eb]
        rfl
      rw [e2]
      exact k _ (same_upd nD)
    have last : ((ds.all fun x => decide (x ∈ azn.cps.toList)) = isNm ds) → tRet (tCB (rAll K) (tCons (tLc (iStr (tVar 0)) (gName 1) tYes (tOp (fun x y H Q => ∃ (c : Nat) (z : Str), x = V.str ⟨#[c]⟩ ∧ y = V.str z ∧ Q (V.bl (decide (c ∈ z.cps.toList))) H) (tVar 1) (tC (V.str azn))) (List.map (fun x => x.2) [(("char" : Str), 1)])) tNil)) { nx := fun _ H' => Q .non H', rt := Q } (L2.start ["text", "char"] [.str (tx ds)]) H := fun e => by
      refine ⟨_, rfl, tx ds, rfl, fun D nD => lc_it walk_str (fun i H2 => H2 = upd H D (.lst (((ds.take i).map fun x => decide (x ∈ azn.cps.toList)).map V.bl))) rfl (fun _ _ _ _ => trivial) ?_ ?_⟩
      · rintro i x H2 H3 hi rfl ⟨rfl, c, hc, rfl⟩
        have hc' : ds[i]? = some c := by
          have z : (ds.toArray)[i]? = some c := hc
          rw [List.getElem?_toArray] at z
          exact z
        refine ⟨rfl, ?_⟩
        refine ⟨_, rfl, c, azn, rfl, rfl, _, upd_same, ?_, ?_⟩
        · rw [List.length_map, List.length_map, List.length_take]
          exact small1000 (by omega)
        · rw [upd_upd, List.take_add_one, hc', Option.toList_some, List.map_append, List.map_append]
          rfl
      · rintro H2 rfl
        have hsz2 : (tx ds).cps.size = ds.length := tx_len ds
        rw [hsz2, List.take_length]
        obtain ⟨a, bs, h1, h2, h3⟩ := fin D nD _ rfl
        exact ⟨a, bs, h1, h2, h3 e⟩
    have no : isNm ds = false → tRet (tC (V.bl false)) { nx := fun _ H' => Q .non H', rt := Q } (L2.start ["text", "char"] [.str (tx ds)]) H := fun e => by
      have := k H (fun _ _ e => e)
      rw [e] at this
      exact this
    refine ⟨_, rfl, tx ds, rfl, sz16 (by omega), 1, _, rfl, rfl, _, rfl, ite2 (fun e1 => ⟨_, 12, rfl, rfl, _, rfl, ?_⟩) (fun e1 => ⟨_, rfl, ?_⟩)⟩
    · have h1 : 1 ≤ ds.length := by
        have := of_decide_eq_true e1
        omega
      refine ite2 (fun e2 => ?_) (fun e2 => ?_)
      · refine no ?_
        have : ¬ ds.length ≤ 12 := fun z => by
          rw [hlen] at e2
          simp at e2
          omega
        cases ds with
        | nil => rfl
        | cons c r => rw [isNm_cons, decide_eq_false this]; rfl
      · have h12 : ds.length ≤ 12 := by
          rw [hlen] at e2
          simp at e2
          omega
        obtain ⟨c, r, rfl⟩ : ∃ c r, ds = c :: r := by
          cases ds with
          | nil => exact absurd h1 (by decide)
          | cons c r => exact ⟨c, r, rfl⟩
        refine ⟨_, rfl, tx (c :: r), 0, c, rfl, rfl, sz16 (by omega), by rw [tx_list]; exact atI_nat (j := 0) rfl, c, az, rfl, rfl, _, rfl, ite2 (fun e3 => ?_) (fun e3 => ?_)⟩
        · refine no ?_
          have e4 : decide (c ∈ az.cps.toList) = false := by simpa using e3
          unfold isNm
          simp only [e4]
          simp
        · refine last ?_
          have e4 : decide (c ∈ az.cps.toList) = true := by simpa using e3
          unfold isNm
          simp only [e4, decide_eq_true h12]
          simp
    · refine iteT' rfl (no ?_)
      have : ds.length = 0 := by
        have h : ¬ (1 : Int) ≤ ((tx ds).length : Int) := fun z => e1 (decide_eq_true z)
        omega
      cases ds with
      | nil => rfl
      | cons c r => exact absurd this (by simp)
end
end DO

namespace DO
open PySem PySem.Spec PyProof.Rows L2
section
variable {P : Program} {w : World} {K : PySem.W.Frag} {mg : Str → Option Value} {base : Heap}
abbrev sChn : Stmt := top 19
theorem scChn : FnScope ["text"] ["text"] (defScope sChn) := ⟨rfl, rfl, rfl, by decide +kernel, rfl, by decide +kernel, by decide +kernel⟩
/-- a name that a measure can have -/
def okNm (ds : List Nat) : Bool := isNm ds && !decide (tx ds = "frame")
def spChn (CB : Addr) : Sp := fun vs H Q E => ∃ ds : List Nat, vs = [.str (tx ds)] ∧ ds.length ≤ 900 ∧ (okNm ds = false → Thrown E CB H [("name", .str (tx ds))]) ∧ (okNm ds = true → ∀ H', Same H H' → Q .non H')
theorem ok_chn (D : Df K mg "check_name" sChn ["text"]) (N : Nam mg) (DN : Df K mg "is_name" sIsNm ["text"]) (GN : FnOk P w K mg base CX0 1 DN.f DN.fd ["text"] spIsNm) (XB : Xc K mg "BadName" "BadName.__init__" sXBadName ["name"] ["self", "name"]) : FnOk P w K mg base (L2N.CX P w) 4 D.f D.fd ["text"] (spChn XB.C) := by
  have F1 : FnOk P w K mg base CX0 1 XB.f XB.fd ["self", "name"] (spX1 K "name") := okX_BadName XB.fn
  obtain ⟨tfr, hfr⟩ := N.fr
  refine okN D.fn scChn (fun vs H Q E h => ?_) (fun cdv A outer s H vs Q E hr h => ?_)
  · obtain ⟨ds, rfl, _⟩ := h
    rfl
  · obtain ⟨ds, rfl, hsz, kx, k⟩ := h
    have hr2 : Room (1 + 1) _ := hr.mono (by decide)
    refine ⟨_, (pss_one (ps_if (PW.pt (pw_or (pt_cmpR op_eq (pv 0) (pe_glob (v := .str "frame") (by rfl) hfr ⟨_, rfl⟩) (nomark _)) (pw_or1 (pt_not (pt_val (pe_call GN (hr.mono (by decide)) (by rfl) DN.mgf DN.fn.kp DN.bd .nil pass0 (pa_cons (pv 0) pa_nil)))))))
      (pss_one (L2N.ps_raise rfl (L2N.takes_of rfl rfl rfl rfl) (pmk_oexN (CX := CX0) XB.ox XB.iC XB.tI F1 hr2 XB.bd .nil (fun _ _ _ _ _ _ _ h => h.elim) (by rfl) XB.gC (pa_cons (pv 0) pa_nil))))
      pss_nil)), ?_⟩
    refine ⟨_, rfl, rfl, _, rfl, ite2 (fun e => ?_) (fun e => ?_)⟩
    · have e1 : tx ds = "frame" := V.str.inj (of_decide_eq_true e)
      have e2 : okNm ds = false := by
        unfold okNm
        rw [decide_eq_true e1]
        simp
      exact ⟨_, rfl, read1 XB.ox (XB.no "name" List.mem_cons_self) (kx e2)⟩
    · have e1 : ¬ tx ds = "frame" := fun z => e (decide_eq_true (congrArg V.str z))
      refine ⟨_, rfl, ds, rfl, hsz, fun H1 s1 => ⟨_, rfl, ite2 (fun e2 => ?_) (fun e2 => ?_)⟩⟩
      · have e3 : okNm ds = false := by
          unfold okNm
          have : isNm ds = false := by simpa using e2
          rw [this]
          rfl
        exact ⟨_, rfl, read1 XB.ox (XB.no "name" List.mem_cons_self) ((kx e3).same s1)⟩
      · have e3 : okNm ds = true := by
          unfold okNm
          have : isNm ds = true := by simpa using e2
          rw [this, decide_eq_false e1]
          rfl
        exact k e3 H1 s1
abbrev sMea : Stmt := top 23
theorem scMea : FnScope ["name", "low", "high"] ["name", "low", "high"] (defScope sMea) := ⟨rfl, rfl, rfl, by decide +kernel, rfl, by decide +kernel, by decide +kernel⟩
def spMea (C CB CE : Addr) : Sp := fun vs H Q E => ∃ (ds : List Nat) (lo hi : Int), vs = [.str (tx ds), .int lo, .int hi] ∧ ds.length ≤ 900 ∧ (okNm ds = false → Thrown E CB H [("name", .str (tx ds))]) ∧
  (okNm ds = true → lo > hi → Thrown E CE H [("high", .int hi), ("low", .int lo)]) ∧ (okNm ds = true → lo ≤ hi → ∀ r H', H r = none → Same H H' → FormAt C H' r 0 [⟨tx ds, 1, lo, hi⟩] → Q (.ref r) H')
theorem ok_mea {C CB : Addr} {fm : Addr} {fdm : FuncData} (D : Fun K "measured" "measured" sMea fm fdm) (DC : Df K mg "check_name" sChn ["text"]) (GC : FnOk P w K mg base (L2N.CX P w) 4 DC.f DC.fd ["text"] (spChn CB))
    (DF : Df K mg "form_of" sFof ["constant", "terms"]) (GF : FnOk P w K mg base CX0 3 DF.f DF.fd ["constant", "terms"] (spFof K C)) (XE : Xc K mg "BadEnds" "BadEnds.__init__" sXBadEnds ["low", "high"] ["self", "low", "high"]) : FnOk P w K mg base (L2N.CX P w) 5 fm fdm ["name", "low", "high"] (spMea C CB XE.C) := by
  have F2 : FnOk P w K mg base CX0 1 XE.f XE.fd ["self", "low", "high"] (spX2 K "low" "high") := okX_BadEnds XE.fn
  refine okN D scMea (fun vs H Q E h => ?_) (fun cdv A outer s H vs Q E hr h => ?_)
  · obtain ⟨ds, lo, hi, rfl, _⟩ := h
    rfl
  · obtain ⟨ds, lo, hi, rfl, hsz, kb, ke, k⟩ := h
    have hr2 : Room (1 + 1) _ := hr.mono (by decide)
    refine ⟨_, (pss_cons (ps_expr (pe_callS GC (hr.mono (by decide)) (by rfl) DC.mgf DC.fn.kp DC.bd (L2N.passAt (L2N.takes_of rfl rfl rfl rfl)) (pa_cons (pv 0) pa_nil)))
      (pss_cons (ps_if (pt_cmpR op_gt (pv 1) (pv 2) (nomark _))
      (pss_one (L2N.ps_raise rfl (L2N.takes_of rfl rfl rfl rfl) (pmk_oexN (CX := CX0) XE.ox XE.iC XE.tI F2 hr2 XE.bd .nil (fun _ _ _ _ _ _ _ h => h.elim) (by rfl) XE.gC (pa_cons (pv 1) (pa_cons (pv 2) pa_nil)))))
      pss_nil)
      (pss_one (ps_ret (pe_call GF (hr.mono (by decide)) (by rfl) DF.mgf DF.fn.kp DF.bd .nil pass0 (pa_cons pe_int (pa_cons (pe_lst (pa_cons (pe_tup (pa_cons (pv 0) (pa_cons pe_int (pa_cons (pv 1) (pa_cons (pv 2) pa_nil))))) pa_nil)) pa_nil))))))), ?_⟩
    refine ⟨_, rfl, ds, rfl, hsz, kb, fun ok H1 s1 => ?_⟩
    refine ⟨_, rfl, _, rfl, _, _, rfl, rfl, _, rfl, ite2 (fun e => ?_) (fun e => ?_)⟩
    · have e1 : lo > hi := of_decide_eq_true e
      exact ⟨_, rfl, _, rfl, read2 XE.ox (XE.no "low" List.mem_cons_self) (XE.no "high" (List.mem_cons_of_mem _ List.mem_cons_self)) ((ke ok e1).same s1)⟩
    · have e1 : lo ≤ hi := by
        have : ¬ lo > hi := fun z => e (decide_eq_true z)
        omega
      refine ⟨_, rfl, _, rfl, _, rfl, (by show 4 ≤ sizeLine; decide), fun q nq => ⟨(by show 1 ≤ sizeLine; decide), fun l nl => ?_⟩⟩
      have s2 := same_upd (o := .tup [V.str (tx ds), V.int 1, V.int lo, V.int hi]) nq
      have s3 := same_upd (o := .lst [V.ref q]) nl
      exact ⟨0, l, [.ref q], [⟨tx ds, 1, lo, hi⟩], rfl, .inl upd_same, .cons ⟨tx ds, 1, lo, hi⟩ q (s3 _ _ upd_same) .nil, fun r H' nr s4 hf => k ok e1 r H' ((s1.trans (s2.trans s3)).free nr) ((s1.trans (s2.trans s3)).trans s4) hf⟩
abbrev sVal : Stmt := inClass sCls 13
theorem scVal : FnScope ["self", "values", "total", "name", "times", "low", "high"] ["self", "values"] (defScope sVal) := ⟨rfl, rfl, rfl, by decide +kernel, rfl, by decide +kernel, by decide +kernel⟩
def missT (g : Str → Option Int) (ts : List Tm) : Option Str := (ts.find? fun x => (g x.nm).isNone).map (·.nm)
def valT (g : Str → Option Int) (ts : List Tm) : Int := (ts.map fun x => x.k * (g x.nm).getD 0).sum
def spVal (C CU : Addr) : Sp := fun vs H Q E => ∃ (p d : Addr) (n : Int) (ts : List Tm) (kvs : List (Key × V)) (g : Str → Option Int), vs = [.ref p, .ref d] ∧ FormAt C H p n ts ∧ ts.length ≤ 900 ∧ Bd 10000 n ts ∧ H d = some (.dK kvs) ∧ (∀ w, valV kvs (Sum.inr w : Key) = (g w).map V.int) ∧ (∀ w z, g w = some z → z.natAbs < 2 ^ 10000) ∧
  (∀ w, missT g ts = some w → Thrown E CU H [("name", .str w)]) ∧ (missT g ts = none → Q (.int (n + valT g ts)) H)
theorem ok_val {C : Addr} (T : Frm K mg C) (M : Mf K C "value" "Form.value" sVal ["self", "values"]) (XU : Xc K mg "UnknownName" "UnknownName.__init__" sXUnknownName ["name"] ["self", "name"]) : FnOk P w K mg base (L2N.CX P w) 4 M.f M.fd ["self", "values"] (spVal C XU.C) := by
  have F1 : FnOk P w K mg base CX0 1 XU.f XU.fd ["self", "name"] (spX1 K "name") := okX_UnknownName XU.fn
  refine okN M.fn scVal (fun vs H Q E h => ?_) (fun cdv A outer s H vs Q E hr h => ?_)
  · obtain ⟨p, d, n, ts, kvs, g, rfl, _⟩ := h
    rfl
  · obtain ⟨p, d, n, ts, kvs, g, rfl, hp, hsz, hb, hd, hg, hgb, kx, k⟩ := h
    have hu := hu_of hr
    have hr2 : Room (1 + 1) _ := hr.mono (by decide)
    refine ⟨_, (pss_cons (ps_set (i := 2) scVal.nd rfl (.inl rfl) (pe_fld (pv 0) rfl))
      (pss_cons (ps_for (passes_of rfl) rfl (pi_tup (pe_fld (pv 0) rfl)) (pg_tup rfl (pgs_cons (pg_name (i := 3) scVal.nd rfl (Or.inl rfl)) (pgs_cons (pg_name (i := 4) scVal.nd rfl (Or.inl rfl)) (pgs_cons (pg_name (i := 5) scVal.nd rfl (Or.inl rfl)) (pgs_cons (pg_name (i := 6) scVal.nd rfl (Or.inl rfl)) pgs_nil)))))
      (pss_cons (ps_if (pt_cmp (pc_dnotin hu (pv 3) (pv 1)))
      (pss_one (L2N.ps_raise rfl (L2N.takes_of rfl rfl rfl rfl) (pmk_oexN (CX := CX0) XU.ox XU.iC XU.tI F1 hr2 XU.bd .nil (fun _ _ _ _ _ _ _ h => h.elim) (by rfl) XU.gC (pa_cons (pv 3) pa_nil))))
      pss_nil)
      (pss_one (ps_set (i := 2) scVal.nd rfl (.inl rfl) (pe_op op_addL (pv 2) (pe_op op_mulWL (pv 4) (pe_dget hu (pv 1) (pv 3) (fun _ _ => rfl))))))))
      (pss_one (ps_ret (pv 2))))), ?_⟩
    obtain ⟨dx, t, us, h1, h2, h3⟩ := id hp
    have hl := h3.len
    refine ⟨_, rfl, p, C, dx, _, _, rfl, h1, T.cl, T.nC, ff_c _ _, ?_⟩
    refine ⟨_, rfl, p, C, dx, _, _, rfl, h1, T.cl, T.nT, ff_t _ _, t, rfl, ⟨us, sql_ofT h2⟩, for_tup (K := K) (a := t) (xs := us) (fun i σ H3 => ∃ x3 x4 x5 x6, σ = [some (.ref p), some (.ref d), some (.int (n + valT g (ts.take i))), x3, x4, x5, x6] ∧ H3 = H ∧ (ts.take i).find? (fun x => (g x.nm).isNone) = none) ⟨none, none, none, none, ?_, rfl, rfl⟩ (fun i σ H3 _ ⟨_, _, _, _, _, z, _⟩ => sql_ofT (by rw [z]; exact h2)) ?_ ?_⟩
    · show _ = [_, _, some (V.int (n + 0)), _, _, _, _]
      rw [Int.add_zero]
      rfl
    · rintro i y σ H3 hi ⟨x3, x4, x5, x6, rfl, rfl, hf⟩
      obtain ⟨x, q, hx, rfl, hq⟩ := h3.at_ hi
      refine ⟨q, _, rfl, sql_ofT hq, rfl, _, _, rfl, _, _, rfl, _, _, rfl, _, _, rfl, rfl, ?_⟩
      refine ⟨_, rfl, _, rfl, d, _, rfl, DGet.k (k := Sum.inr x.nm) hd, _, rfl, ?_⟩
      rw [hg]
      cases e : g x.nm with
      | none =>
        refine iteT' rfl ?_
        have hm : missT g ts = some x.nm := by
          unfold missT
          rw [find_take hx hf (by rw [e]; rfl)]
          rfl
        exact ⟨_, rfl, read1 XU.ox (XU.no "name" List.mem_cons_self) (kx _ hm)⟩
      | some z =>
        refine iteF' rfl ?_
        refine ⟨_, rfl, _, rfl, _, rfl, _, rfl, d, .int z, rfl, ?_, x.k, z, rfl, rfl, wide_mul (hb.2 x (List.mem_of_getElem? hx)).1 (hgb _ _ e) (by decide) (by decide) (by decide), fun r er => ⟨_, _, rfl, rfl, fun r2 er2 => ⟨some (.str x.nm), some (.int x.k), some (.int x.lo), some (.int x.hi), ?_, rfl, find_snoc hx hf (by rw [e]; rfl)⟩⟩⟩
        · have := DGet.k (k := Sum.inr x.nm) hd
          rw [hg, e] at this
          exact this
        · have ev : r2 = n + valT g (ts.take (i + 1)) := by
            unfold valT at er2 ⊢
            rw [List.take_add_one, hx, Option.toList_some, List.map_append, List.sum_append, er2, er]
            simp [e]
            omega
          rw [ev]
          rfl
    · rintro σ H3 ⟨x3, x4, x5, x6, rfl, rfl, hf⟩
      rw [List.take_of_length_le (by omega)] at hf ⊢
      refine ⟨_, rfl, k ?_⟩
      unfold missT
      rw [hf]
      rfl
end
end DO

namespace DO
open PySem PySem.Spec PyProof.Rows L2
theorem restrictS (h : Heap) (p : Addr → Bool) : ∃ G : Heap, (∀ b, p b = true → G.get? b = h.get? b) ∧ (∀ b, p b = false → G.get? b = none) ∧ G.objs.size = h.objs.size := by
  obtain ⟨l, hl⟩ : ∃ l : List Addr, l = (List.range h.objs.size).filter fun b => !p b := ⟨_, rfl⟩
  have m1 : ∀ b, b ∈ l → p b = false := fun b hb => by
    rw [hl] at hb
    have z := (List.mem_filter.mp hb).2
    simpa using z
  have m2 : ∀ b, b < h.objs.size → p b = false → b ∈ l := fun b h1 h2 => by
    rw [hl]
    exact List.mem_filter.mpr ⟨List.mem_range.mpr h1, by simp [h2]⟩
  refine ⟨PySem.W.hideAll h l, fun b hb => ?_, fun b hb => ?_, PySem.W.hideAll_size _ _⟩
  · cases e : h.get? b with
    | some o => exact PySem.W.hideAll_get l e fun hm => by rw [m1 b hm] at hb; cases hb
    | none =>
      cases q : (PySem.W.hideAll h l).get? b with
      | none => rfl
      | some o =>
        have z := PySem.W.of_hideAll l q
        rw [e] at z; cases z
  · cases q : (PySem.W.hideAll h l).get? b with
    | none => rfl
    | some o =>
      have z := PySem.W.of_hideAll l q
      rw [PySem.W.hideAll_none l (m2 b (Heap.lt_size z) hb)] at q; cases q
section
variable {X : Cx} {k : Nat} {f a : Addr} {fd : FuncData} {ps : List Str} {sp : Sp} {oe : Obj} {pn : List (Addr × Obj)} {x : Str} {p pos : Pos} {e : Expr} {te : TE}
theorem run_pin {pins : List (Addr × Obj)} {σ : L2.St} {H : Hp} {s : Shared} {Q : VK} {us : List Value} {vs : List V} (F : ∀ base' : Heap, base'.get? a = some oe → L2H.FnH X.prog X.w X.K X.mg base' CX0 k f fd ps sp) (hf : ∃ vs, oe.data = .fields vs) (hr : L2H.RoomH k X.A) (hot : L2H.Hot1 X.A (a, oe)) (hb : Binds X.K fd ps [])
    (I : L2.Inv X pins σ H s) (hp : L2H.PinOk X.stack H s (a, oe)) (r : Vals vs us) (h : sp vs H Q (fun _ _ _ => False)) : wpAny (model X.prog X.w) X.A (call (.ref f) us) (EP X pins σ Q) X.xe s := by
  have hg : s.heap.get? a = some oe := hp.get
  have hH : H a = none := hp.free
  obtain ⟨G, g1, g2, g3⟩ := restrictS s.heap fun b => (X.base.get? b).isSome || decide (b = a)
  have gb : ∀ b o, X.base.get? b = some o → G.get? b = some o := fun b o e => by
    rw [g1 b (by rw [e]; rfl)]
    exact (I.bs b o e).1
  have gi : ∀ b o, G.get? b = some o → s.heap.get? b = some o ∧ H b = none := fun b o e => by
    cases q : ((X.base.get? b).isSome || decide (b = a)) with
    | false =>
      rw [g2 b q] at e
      cases e
    | true =>
      rw [g1 b q] at e
      refine ⟨e, ?_⟩
      rcases Bool.or_eq_true_iff.mp q with z | z
      · obtain ⟨o', e'⟩ := Option.isSome_iff_exists.mp z
        exact (I.bs b o' e').2
      · rw [of_decide_eq_true z]
        exact hH
  have ga : G.get? a = some oe := by
    rw [g1 a (by simp)]
    exact hg
  have e0 := I.env0
  have M' : Mod X.K X.mg G := by
    obtain ⟨mb, h1, h2⟩ := e0.mod.blt
    exact ⟨e0.mod.kin.keeps gb, e0.mod.glob.keeps gb, ⟨mb, h1.keeps gb, h2⟩, e0.mod.nolimit.keeps gb⟩
  have E' : Env0 X.prog X.w X.K X.mg G X.A X.stack s H := ⟨e0.frames, M', gi, by rw [g3]; exact Nat.le_refl _, funFrames_none e0.funs (fun L hL => by
    cases q : ((X.base.get? L).isSome || decide (L = a)) with
    | false => exact g2 L q
    | true =>
      exfalso
      rcases Bool.or_eq_true_iff.mp q with z | z
      · obtain ⟨hn, _⟩ := e0.funs.mem hL
        rw [hn] at z
        cases z
      · rw [of_decide_eq_true z] at hL
        obtain ⟨_, o, ho, hd⟩ := e0.funs.mem hL
        obtain ⟨vs, hv⟩ := hf
        rw [hg] at ho
        obtain rfl := Option.some.inj ho
        exact hd vs hv), e0.frf, e0.hok, e0.bare⟩
  have F' := F G ga
  have hl : us.length = ps.length := by rw [← r.length]; exact F'.len _ _ _ _ h
  have b := hb s us I.kIn (by rw [List.append_nil]; exact hl)
  rw [List.append_nil] at b
  refine wpAny_call (codeAny_mono (F'.run X.A X.stack s H ⟨us, []⟩ us vs Q (fun _ _ _ => False) (a, oe) hr hot hp E' b r h) fun r s' hq => ?_)
  cases r with
  | error e => exact hq.elim
  | ok fl =>
    cases fl with
    | ret u => exact I.after hq
    | next => exact False.elim hq
    | brk => exact False.elim hq
    | cont => exact False.elim hq
/-- f(e), e the exception that the suite holds: it stands in what the callee may not touch -/
theorem pe_callPin {cls : Value} {d : Option Addr} (F : ∀ base' : Heap, base'.get? a = some oe → L2H.FnH X.prog X.w X.K X.mg base' CX0 k f fd ps sp) (hz : L2N.Zn cls d oe) (hf : ∃ vs, oe.data = .fields vs) (hr : L2H.RoomH k X.A) (hg : Gl X x) (hm : X.mg x = some (.ref f)) (hk : PySem.W.keepIn X.K (.ref f) = true) (hb : Binds X.K fd ps [])
    (he : PE (X.suite a ((a, oe) :: pn)) e te) (hdb : (x == ("__debug__" : Str)) = false := by decide) (hs : starEach (e :: []) X.env = (false, eval e X.env) :: starEach [] X.env := by rfl) (hpl : (backTo pos (starEach [] X.env)).any (·.1) = false := by rfl) :
    PE (X.suite a ((a, oe) :: pn)) (.Call (.Name x p) [e] [] pos) (tCall sp [] (fun _ _ _ => False) (tCons te tNil)) := by
  refine ⟨fun pins s σ H Q I h => ?_⟩
  refine wpAny_Call_Name_kw (ld_glob I hg hm ?_ hdb)
  refine PySem.W.callWith_K (h₀ := X.base) I.ok.mod.kin hk (thn ((pa_cons he pa_nil (X := X.suite a ((a, oe) :: pn)) hs).run pos pins s σ H _ I h) fun us s1 ⟨vs, H1, I1, r, q⟩ => ⟨I1.kIn, ?_⟩) hs hpl
  have P1 := I1.pin (a, oe) (List.mem_append_left _ List.mem_cons_self)
  have hp : L2H.PinOk (X.suite a ((a, oe) :: pn)).stack H1 s1 (a, oe) := ⟨P1.1, P1.2.1, fun hm => (List.mem_cons.mp (I1.stkSub a hm)).elim P1.2.2.1 P1.2.2.2.1, P1.2.2.2.2⟩
  obtain ⟨ws, hw⟩ := id hf
  have hot : L2H.Hot1 (X.suite a ((a, oe) :: pn)).A (a, oe) := ⟨rfl, ws, hw, hz.2.2 ws hw⟩
  have q' : sp (vs ++ []) H1 Q (fun _ _ _ => False) := q
  rw [List.append_nil] at q'
  exact run_pin (X := X.suite a ((a, oe) :: pn)) F hf (L2H.RoomH.mk hr.dp hr.un) hot hb I1 hp r q'
end
/-! ### in the callee: the exception at a, of the class at D, its dict at d -/
/-- what the class says, so that isinstance asks its instances rightly -/
structure ExD (K : PySem.W.Frag) (D : Addr) : Prop where
  cl : PySem.W.isClsIn K D = true
  hg : PySem.W.findIn K (.ref D) "__getattribute__" = some (some (.builtin "BaseException.__getattribute__"))
  hk : PySem.W.findIn K (.ref D) "__getattr__" = some none
  hs : PySem.W.subIn K (.ref D) (.type "BaseException") = some true
  hd : PySem.W.hasDictIn K D = true
  ha : PySem.W.findIn K (.ref D) "__class__" = some (some (.builtin "object.__class__"))
  hn : PySem.W.specialIn K (.builtin "object.__class__") "__get__" = some (some (.builtin "getset_descriptor.__get__"))
  ht : PySem.W.takesIn K (.builtin "object.__class__") = some true
  hm : PySem.W.mroIn K D (.type "object") = some true
section
variable {X : Cx} {a D d : Addr} {oe : Obj} {e : Expr} {te : TE} {n : Str} {pos : Pos}
theorem ins_at {pins : List (Addr × Obj)} {σ : L2.St} {H : Hp} {s : Shared} {fs : List (Str × V)} (hb : X.base.get? a = some oe) (hz : Zc (.ref D) (some d) oe) (hf : ∃ vs, oe.data = .fields vs) (I : L2.Inv X pins σ H s) (ea : H d = some (.xd fs)) :
    ∃ od, PySem.W.InstAt s.heap a oe D (some od) := by
  have ha := (I.bs a oe hb).1
  obtain ⟨vs, hd⟩ := hf
  have hx : ObjOk X.prog X.w H s.heap d (.xd fs) := I.hok d _ ea
  obtain ⟨mA, hns, hr⟩ := hx
  obtain ⟨od, ho, hl⟩ := lookIn_ns hns
  exact ⟨od, ha, hz.1, by unfold PySem.W.notCls; rw [hd] <;> rfl, by rw [hz.2]; exact ho⟩
def rIsD (K : PySem.W.Frag) (D d a : Addr) : List V → Hp → VK → Prop := fun xs H Q => ∃ (c : V) (cv : Value) (b : Bool) (fs : List (Str × V)), xs = [.ref a, c] ∧ (∀ u, RelV c u → u = cv) ∧ H d = some (.xd fs) ∧ PySem.W.kitOne K (.ref D) cv = some b ∧ Q (.bl b) H
theorem call_isD (C : ExD X.K D) (hb : X.base.get? a = some oe) (hz : Zc (.ref D) (some d) oe) (hf : ∃ vs, oe.data = .fields vs) : CallR X (.builtin "isinstance") (rIsD X.K D d a) := by
  intro pins s σ H xs us Q I r h
  obtain ⟨c, cv, b, fs, rfl, hcv, ea, e, q⟩ := h
  cases r with
  | cons rx rr =>
    cases rr with
    | cons rt rr =>
      cases rr
      cases rx
      have ec := hcv _ rt
      subst ec
      obtain ⟨od, J⟩ := ins_at hb hz hf I ea
      exact PySem.W.kia_one (PySem.W.kitx_exc C.cl C.hg C.hk C.hs C.ha C.hn C.ht C.hm) I.kIn J e (fun z => nomatch z) fun tk => ⟨.bl b, H, I.kept (t' := tk) fun _ _ z => z, rfl, q⟩
/-- e.f -/
def tXb (a d : Addr) (f : Str) (te : TE) : TE := fun σ H Q => te σ H fun x H1 => x = .ref a ∧ ∃ (fs : List (Str × V)) (v : V), H1 d = some (.xd fs) ∧ fs.lookup f = some v ∧ Q v H1
theorem pe_xb (C : ExD X.K D) (hno : PySem.W.findIn X.K (.ref D) n = some none) (hb : X.base.get? a = some oe) (hz : Zc (.ref D) (some d) oe) (hf : ∃ vs, oe.data = .fields vs) (he : PE X e te) (hbs : attributeBase e n X.env (eval e X.env) = eval e X.env := by rfl) :
    PE X (.Attribute e n pos) (tXb a d n te) := by
  refine ⟨fun pins s σ H Q I h => ?_⟩
  refine attr_of hbs (thn (he.run pins s σ H _ I h) fun u s1 hh => ?_)
  obtain ⟨x, H1, I1, rx, ex, fs, v, ea, l, q⟩ := hh
  subst ex
  obtain rfl : u = Value.ref a := rx
  have ha := (I1.bs a oe hb).1
  obtain ⟨vs, hd⟩ := hf
  have hx : ObjOk X.prog X.w H1 s1.heap d (.xd fs) := I1.hok d _ ea
  obtain ⟨mA, hns, hr⟩ := hx
  obtain ⟨od, ho, hl⟩ := lookIn_ns hns
  obtain ⟨u, hu, ru⟩ := RelO.some_of (v := v) (o := mA n) (by rw [← l]; exact hr n)
  have J : PySem.W.InstAt s1.heap a oe D (some od) := ⟨ha, hz.1, by unfold PySem.W.notCls; rw [hd] <;> rfl, by rw [hz.2]; exact ho⟩
  exact HandSPX.exc_get I1.kIn J C.hg C.hk C.hs (PySem.W.findObj_own C.hd hno rfl (by rw [hl, hu])) (handed_of ru) ⟨v, H1, I1.tok _, ru, q⟩
end
end DO

namespace DO
open PySem PySem.Spec PyProof.Rows L2
/-! ### acts -/
inductive Ac where
  | me (w : Str) (lo hi : Int)
  | tu (w : Str) (k : Int)
  | pa (w : Str)
  | ru (u l : Str) (n : Int) (ts : List Tm) (ps : List (Str × Int))
def Ac.lab : Ac → Str
  | .me _ _ _ => "measure"
  | .tu _ _ => "turn"
  | .pa _ => "part"
  | .ru _ _ _ _ _ => "rule"
def Ac.isRu : Ac → Bool
  | .ru _ _ _ _ _ => true
  | _ => false
def Ac.nm : Ac → Str
  | .me w _ _ => w
  | .tu w _ => w
  | .pa w => w
  | .ru u _ _ _ _ => u
theorem lab_ru (a : Ac) : decide (V.str a.lab = V.str (Str.ofString "rule")) = a.isRu := by
  cases a
  · exact (by decide +kernel : decide (V.str (Str.ofString "measure") = V.str (Str.ofString "rule")) = false)
  · exact (by decide +kernel : decide (V.str (Str.ofString "turn") = V.str (Str.ofString "rule")) = false)
  · exact (by decide +kernel : decide (V.str (Str.ofString "part") = V.str (Str.ofString "rule")) = false)
  · exact (by decide +kernel : decide (V.str (Str.ofString "rule") = V.str (Str.ofString "rule")) = true)
theorem at0 {x : V} {xs : List V} : atI (x :: xs) 0 = some x := atI_nat (j := 0) rfl
theorem at1 {x y : V} {xs : List V} : atI (x :: y :: xs) 1 = some y := atI_nat (j := 1) rfl
/-! ### two lists side by side -/
inductive All2 {α β : Type} (R : α → β → Prop) : List α → List β → Prop where
  | nil : All2 R [] []
  | cons {x : α} {y : β} {xs : List α} {ys : List β} : R x y → All2 R xs ys → All2 R (x :: xs) (y :: ys)
section
variable {α β γ : Type} {R : α → β → Prop} {xs us : List α} {ys vs : List β}
theorem All2.len (h : All2 R xs ys) : xs.length = ys.length := by
  induction h with
  | nil => rfl
  | cons _ _ ih => rw [List.length_cons, List.length_cons, ih]
theorem All2.mono {S : α → β → Prop} (h : All2 R xs ys) (k : ∀ x y, R x y → S x y) : All2 S xs ys := by
  induction h with
  | nil => exact .nil
  | cons a _ ih => exact .cons (k _ _ a) ih
theorem All2.app (h : All2 R xs ys) (g : All2 R us vs) : All2 R (xs ++ us) (ys ++ vs) := by
  induction h with
  | nil => exact g
  | cons a _ ih => exact .cons a ih
theorem All2.one {x : α} {y : β} (h : R x y) : All2 R [x] [y] := .cons h .nil
theorem All2.at_ (h : All2 R xs ys) : ∀ {i : Nat} {x : α}, xs[i]? = some x → ∃ y, ys[i]? = some y ∧ R x y := by
  induction h with
  | nil => intro i x z; simp at z
  | cons a _ ih =>
    intro i x z
    cases i with
    | zero =>
      obtain rfl := Option.some.inj (by simpa using z)
      exact ⟨_, rfl, a⟩
    | succ j =>
      obtain ⟨y, z1, z2⟩ := ih (i := j) (x := x) (by simpa using z)
      exact ⟨y, by simpa using z1, z2⟩
theorem All2.at' (h : All2 R xs ys) : ∀ {i : Nat} {y : β}, ys[i]? = some y → ∃ x, xs[i]? = some x ∧ R x y := by
  induction h with
  | nil => intro i x z; simp at z
  | cons a _ ih =>
    intro i x z
    cases i with
    | zero =>
      obtain rfl := Option.some.inj (by simpa using z)
      exact ⟨_, rfl, a⟩
    | succ j =>
      obtain ⟨y, z1, z2⟩ := ih (i := j) (y := x) (by simpa using z)
      exact ⟨y, by simpa using z1, z2⟩
theorem All2.rev (h : All2 R xs ys) : All2 R xs.reverse ys.reverse := by
  induction h with
  | nil => exact .nil
  | cons a _ ih => rw [List.reverse_cons, List.reverse_cons]; exact ih.app (.one a)
theorem All2.pop (h : All2 R xs ys) : All2 R xs.dropLast ys.dropLast := by
  induction h with
  | nil => exact .nil
  | cons a t ih =>
    cases t with
    | nil => exact .nil
    | cons b t' => exact .cons a ih
theorem All2.last (h : All2 R xs ys) {y : β} (hy : ys.getLast? = some y) : ∃ x, xs.getLast? = some x ∧ R x y := by
  rw [List.getLast?_eq_getElem?] at hy
  obtain ⟨x, h1, h2⟩ := h.at' hy
  refine ⟨x, ?_, h2⟩
  rw [List.getLast?_eq_getElem?, h.len]
  exact h1
end
/-! ### what never changes: tuples and instances -/
def Fx : HO → Prop
  | .tup _ => True
  | .ins _ _ _ => True
  | _ => False
def Kt (H H' : Hp) : Prop := ∀ b o, H b = some o → Fx o → H' b = some o
theorem Kt.refl {H : Hp} : Kt H H := fun _ _ h _ => h
theorem Kt.trans {H H1 H2 : Hp} (a : Kt H H1) (b : Kt H1 H2) : Kt H H2 := fun c o h f => b c o (a c o h f) f
theorem Kt.same {H H' : Hp} (a : Same H H') : Kt H H' := fun c o h _ => a c o h
theorem Kt.upd {H : Hp} {p : Addr} {xs ys : List V} (h : H p = some (.lst xs)) : Kt H (upd H p (.lst ys)) := fun c o e f => by
  by_cases z : c = p
  · subst z
    rw [h] at e
    cases e
    exact f.elim
  · rw [upd_ne z]
    exact e
theorem Kt.kp {a : Addr} {H H' : Hp} {xs : List V} (k : Kp a H H') (ha : H a = some (.lst xs)) : Kt H H' := fun c o e f => k c o e fun z => by
  subst z
  rw [ha] at e
  cases e
  exact f.elim
theorem Kt.tup {H H' : Hp} (k : Kt H H') : ∀ t xs, H t = some (.tup xs) → H' t = some (.tup xs) := fun t xs h => k t _ h trivial
theorem FormAt.kt {C : Addr} {H H' : Hp} {p : Addr} {n : Int} {ts : List Tm} (h : FormAt C H p n ts) (k : Kt H H') : FormAt C H' p n ts := by
  obtain ⟨dx, t, us, h1, h2, h3⟩ := h
  exact ⟨dx, t, us, k _ _ h1 trivial, k.tup _ _ h2, h3.mono k.tup⟩
theorem TAll.kt {H H' : Hp} {us : List V} {ts : List Tm} (h : TAll H us ts) (k : Kt H H') : TAll H' us ts := h.mono k.tup
/-! ### where acts stand -/
def PairT (H : Hp) (v : V) (p : Str × Int) : Prop := ∃ t, v = .ref t ∧ H t = some (.tup [.str p.1, .int p.2])
theorem PairT.kt {H H' : Hp} {v : V} {p : Str × Int} (h : PairT H v p) (k : Kt H H') : PairT H' v p := by
  obtain ⟨t, e, z⟩ := h
  exact ⟨t, e, k.tup _ _ z⟩
abbrev PAll (H : Hp) (vs : List V) (ps : List (Str × Int)) : Prop := All2 (PairT H) vs ps
theorem PAll.kt {H H' : Hp} {vs : List V} {ps : List (Str × Int)} (h : PAll H vs ps) (k : Kt H H') : PAll H' vs ps := h.mono fun _ _ z => z.kt k
/-- a form as the law writes it down -/
def ModF (H : Hp) (m : Addr) (n : Int) (ts : List Tm) : Prop := ∃ t us, H m = some (.tup [.int n, .ref t]) ∧ H t = some (.tup us) ∧ TAll H us ts
theorem ModF.kt {H H' : Hp} {m : Addr} {n : Int} {ts : List Tm} (h : ModF H m n ts) (k : Kt H H') : ModF H' m n ts := by
  obtain ⟨t, us, h1, h2, h3⟩ := h
  exact ⟨t, us, k.tup _ _ h1, k.tup _ _ h2, h3.kt k⟩
/-- the items behind the label -/
def RuR (C : Addr) (H : Hp) (xs : List V) (u l : Str) (n : Int) (ts : List Tm) (ps : List (Str × Int)) : Prop := ∃ f q us, xs = [.str u, .str l, .ref f, .ref q] ∧ FormAt C H f n ts ∧ H q = some (.tup us) ∧ PAll H us ps
def RuM (H : Hp) (xs : List V) (u l : Str) (n : Int) (ts : List Tm) (ps : List (Str × Int)) : Prop := ∃ m q us, xs = [.str u, .str l, .ref m, .ref q] ∧ ModF H m n ts ∧ H q = some (.tup us) ∧ PAll H us ps
def AcR (C : Addr) (H : Hp) (v : V) (a : Ac) : Prop := ∃ t xs, v = .ref t ∧ H t = some (.tup xs) ∧ match a with
  | .me w lo hi => xs = [.str "measure", .str w, .int lo, .int hi]
  | .tu w k => xs = [.str "turn", .str w, .int k]
  | .pa w => xs = [.str "part", .str w]
  | .ru u l n ts ps => ∃ ys, xs = .str "rule" :: ys ∧ RuR C H ys u l n ts ps
def AcM (H : Hp) (v : V) (a : Ac) : Prop := ∃ t xs, v = .ref t ∧ H t = some (.tup xs) ∧ match a with
  | .me w lo hi => xs = [.str "measure", .str w, .int lo, .int hi]
  | .tu w k => xs = [.str "turn", .str w, .int k]
  | .pa w => xs = [.str "part", .str w]
  | .ru u l n ts ps => ∃ ys, xs = .str "rule" :: ys ∧ RuM H ys u l n ts ps
theorem RuR.kt {C : Addr} {H H' : Hp} {xs : List V} {u l : Str} {n : Int} {ts : List Tm} {ps : List (Str × Int)} (h : RuR C H xs u l n ts ps) (k : Kt H H') : RuR C H' xs u l n ts ps := by
  obtain ⟨f, q, us, e, h1, h2, h3⟩ := h
  exact ⟨f, q, us, e, h1.kt k, k.tup _ _ h2, h3.kt k⟩
theorem RuM.kt {H H' : Hp} {xs : List V} {u l : Str} {n : Int} {ts : List Tm} {ps : List (Str × Int)} (h : RuM H xs u l n ts ps) (k : Kt H H') : RuM H' xs u l n ts ps := by
  obtain ⟨f, q, us, e, h1, h2, h3⟩ := h
  exact ⟨f, q, us, e, h1.kt k, k.tup _ _ h2, h3.kt k⟩
theorem AcR.kt {C : Addr} {H H' : Hp} {v : V} {a : Ac} (h : AcR C H v a) (k : Kt H H') : AcR C H' v a := by
  obtain ⟨t, xs, e, h1, h2⟩ := h
  refine ⟨t, xs, e, k.tup _ _ h1, ?_⟩
  cases a with
  | ru u l n ts ps =>
    obtain ⟨ys, e2, h3⟩ := h2
    exact ⟨ys, e2, h3.kt k⟩
  | _ => exact h2
theorem AcM.kt {H H' : Hp} {v : V} {a : Ac} (h : AcM H v a) (k : Kt H H') : AcM H' v a := by
  obtain ⟨t, xs, e, h1, h2⟩ := h
  refine ⟨t, xs, e, k.tup _ _ h1, ?_⟩
  cases a with
  | ru u l n ts ps =>
    obtain ⟨ys, e2, h3⟩ := h2
    exact ⟨ys, e2, h3.kt k⟩
  | _ => exact h2
/-- the first item is the label -/
theorem AcR.lab {C : Addr} {H : Hp} {v : V} {a : Ac} (h : AcR C H v a) : ∃ t xs, v = .ref t ∧ H t = some (.tup (.str a.lab :: xs)) ∧ (a.isRu = false → ∃ ys, xs = .str a.nm :: ys) := by
  obtain ⟨t, xs, e, h1, h2⟩ := h
  cases a with
  | ru u l n ts ps =>
    obtain ⟨ys, e2, h3⟩ := h2
    subst e2
    exact ⟨t, ys, e, h1, fun z => by cases z⟩
  | me w lo hi => subst h2; exact ⟨t, _, e, h1, fun _ => ⟨_, rfl⟩⟩
  | tu w k => subst h2; exact ⟨t, _, e, h1, fun _ => ⟨_, rfl⟩⟩
  | pa w => subst h2; exact ⟨t, _, e, h1, fun _ => ⟨_, rfl⟩⟩
theorem AcM.lab {H : Hp} {v : V} {a : Ac} (h : AcM H v a) : ∃ t xs, v = .ref t ∧ H t = some (.tup (.str a.lab :: xs)) ∧ (a.isRu = false → ∃ ys, xs = .str a.nm :: ys) := by
  obtain ⟨t, xs, e, h1, h2⟩ := h
  cases a with
  | ru u l n ts ps =>
    obtain ⟨ys, e2, h3⟩ := h2
    subst e2
    exact ⟨t, ys, e, h1, fun z => by cases z⟩
  | me w lo hi => subst h2; exact ⟨t, _, e, h1, fun _ => ⟨_, rfl⟩⟩
  | tu w k => subst h2; exact ⟨t, _, e, h1, fun _ => ⟨_, rfl⟩⟩
  | pa w => subst h2; exact ⟨t, _, e, h1, fun _ => ⟨_, rfl⟩⟩
abbrev RAll (C : Addr) (H : Hp) (vs : List V) (as : List Ac) : Prop := All2 (AcR C H) vs as
abbrev MAll (H : Hp) (vs : List V) (as : List Ac) : Prop := All2 (AcM H) vs as
theorem RAll.kt {C : Addr} {H H' : Hp} {vs : List V} {as : List Ac} (h : RAll C H vs as) (k : Kt H H') : RAll C H' vs as := h.mono fun _ _ z => z.kt k
theorem MAll.kt {H H' : Hp} {vs : List V} {as : List Ac} (h : MAll H vs as) (k : Kt H H') : MAll H' vs as := h.mono fun _ _ z => z.kt k
/-! ### a comprehension over a list, item by item -/
section
variable {K : PySem.W.Frag} {α β : Type}
theorem lc_pick {J : It} {G : Hp → Prop} {xs : List V} (wk : Walk J xs.length G (YAt xs)) (as : List α) (φ : α → Option β) (Ry : Hp → V → β → Prop) (my : ∀ H H' v b, Kt H H' → Ry H v b → Ry H' v b)
    {g : TG} {tt : TT} {te : TE} {vs : List Nat} {σ : L2.St} {H1 : Hp} {D : Addr} {Qd : Hp → Prop} (nD : H1 D = none) (hG : ∀ H2, Same H1 H2 → G H2) (hl : xs.length = as.length) (hz : xs.length ≤ 1000)
    (hs : ∀ (i : Nat) (x : V) (c : α) (H2 : Hp) (Yes : V → Hp → Prop) (No : Hp → Prop), xs[i]? = some x → as[i]? = some c → Same H1 H2 → (∀ y H5 r, φ c = some r → Same H2 H5 → Ry H5 y r → Yes y H5) → (∀ H4, φ c = none → Same H2 H4 → No H4) →
      g x (wipe σ vs) H2 fun σ2 H3 => wipe σ2 vs = wipe σ vs ∧ tt σ2 H3 fun b H4 => if b = true then te σ2 H4 Yes else No H4)
    (hd : ∀ H2 ys, H2 D = some (.lst ys) → All2 (Ry H2) ys (as.filterMap φ) → Same H1 H2 → Qd H2) :
    ∃ W : Nat → Nat → Hp → Prop, (∃ m, W 0 m (upd H1 D (.lst []))) ∧ ∀ i m H, W i m H →
      (J.stop i H ∧ Qd H) ∨ (J.go i H ∧ ∃ Nx : Hp → Prop, (∀ H', Nx H' → ∃ m', m' < m ∧ W (i + 1) m' H') ∧ ∀ x H', J.yld i H x H' → g x (wipe σ vs) H' fun σ2 H2 => wipe σ2 vs = wipe σ vs ∧ tt σ2 H2 fun b H3 =>
        if b = true then te σ2 H3 fun y H4 => ∃ acc, H4 D = some (.lst acc) ∧ acc.length < sizeLine ∧ Nx (upd H4 D (.lst (acc ++ [y]))) else Nx H3) := by
  refine lc_it wk (fun i H2 => ∃ ys, H2 D = some (.lst ys) ∧ All2 (Ry H2) ys ((as.take i).filterMap φ) ∧ Same H1 H2) ⟨[], upd_same, .nil, same_upd nD⟩ (fun i H _ ⟨_, _, _, z⟩ => hG H z) ?_ ?_
  · rintro i x H2 H3 hi ⟨ys, hD, hA, s2⟩ ⟨rfl, hx⟩
    have hc : as[i]? = some (as[i]'(by omega)) := List.getElem?_eq_getElem (by omega)
    generalize (as[i]'(by omega)) = c at hc
    have tk : (as.take (i + 1)).filterMap φ = (as.take i).filterMap φ ++ [c].filterMap φ := by rw [List.take_add_one, hc, Option.toList_some, List.filterMap_append]
    refine hs i x c H3 _ _ hx hc s2 (fun y H5 r e s5 hy => ?_) (fun H4 e s4 => ?_)
    · have h5 := s5 _ _ hD
      refine ⟨ys, h5, ?_, ys ++ [y], upd_same, ?_, ?_⟩
      · have l1 := hA.len
        have l2 : ((as.take i).filterMap φ).length ≤ i := Nat.le_trans (List.length_filterMap_le _ _) (by rw [List.length_take]; omega)
        exact small1000 (by omega)
      · rw [tk]
        have e1 : [c].filterMap φ = [r] := by simp [e]
        rw [e1]
        have k5 : Kt H5 (upd H5 D (.lst (ys ++ [y]))) := Kt.upd h5
        exact (hA.mono fun _ _ z => my _ _ _ _ ((Kt.same s5).trans k5) z).app (.one (my _ _ _ _ k5 hy))
      · intro b o eb
        rw [upd_ne (ne_of_none eb nD)]
        exact s5 _ _ (s2 _ _ eb)
    · refine ⟨ys, s4 _ _ hD, ?_, s2.trans s4⟩
      rw [tk]
      have e1 : [c].filterMap φ = [] := by simp [e]
      rw [e1, List.append_nil]
      exact hA.mono fun _ _ z => my _ _ _ _ (Kt.same s4) z
  · rintro H2 ⟨ys, hD, hA, s2⟩
    rw [List.take_of_length_le (by omega)] at hA
    exact hd H2 ys hD hA s2
end
end DO

namespace DO
open PySem PySem.Spec PyProof.Rows L2
section
variable {P : Program} {w : World} {K : PySem.W.Frag} {mg : Str → Option Value} {base : Heap}
/-! ### the class Card -/
abbrev sCrd : Stmt := top 29
/-- what is asked of the class as the top has made it -/
structure Crd (K : PySem.W.Frag) (mg : Str → Option Value) (D : Addr) : Prop where
  cl : Cls K D
  nA : NoAttr K D "_acts"
  mgC : mg "Card" = some (.ref D)
/-- a card at p, its acts in the list at L -/
def CardP (D : Addr) (H : Hp) (p L : Addr) : Prop := ∃ dx, H p = some (.ins D dx [("_acts", .ref L)])
theorem CardP.kt {D : Addr} {H H' : Hp} {p L : Addr} (h : CardP D H p L) (k : Kt H H') : CardP D H' p L := by
  obtain ⟨dx, h⟩ := h
  exact ⟨dx, k _ _ h trivial⟩
/-- a list with acts in it -/
structure ActsR (C : Addr) (H : Hp) (L : Addr) (as : List Ac) : Prop where
  at_ : ∃ xs, H L = some (.lst xs) ∧ RAll C H xs as
  sz : as.length ≤ 200
theorem ActsR.same {C : Addr} {H H' : Hp} {L : Addr} {as : List Ac} (h : ActsR C H L as) (k : Same H H') : ActsR C H' L as := by
  obtain ⟨⟨xs, h1, h2⟩, h3⟩ := h
  exact ⟨⟨xs, k _ _ h1, h2.kt (.same k)⟩, h3⟩
def noRu (a : Ac) : Option Ac := if a.isRu = true then none else some a
def stepsOf (as : List Ac) : List Ac := as.filterMap noRu
theorem noRu_some {a r : Ac} (h : noRu a = some r) : r = a ∧ a.isRu = false := by
  unfold noRu at h
  cases e : a.isRu with
  | true => rw [e] at h; cases h
  | false => rw [e] at h; exact ⟨(Option.some.inj h).symm, rfl⟩
theorem ne_ru {a : Ac} (e : (!decide (V.str a.lab = V.str (Str.ofString "rule"))) = true) : noRu a = some a := by
  rw [lab_ru] at e
  unfold noRu
  cases h : a.isRu with
  | true => rw [h] at e; cases e
  | false => rfl
theorem eq_ru {a : Ac} (e : ¬ (!decide (V.str a.lab = V.str (Str.ofString "rule"))) = true) : noRu a = none := by
  rw [lab_ru] at e
  unfold noRu
  cases h : a.isRu with
  | true => rfl
  | false => rw [h] at e; exact absurd rfl e
/-! ### steps -/
abbrev sSteps : Stmt := inClass sCrd 2
theorem scSteps : FnScope ["self", "act"] ["self"] (defScope sSteps) := ⟨rfl, rfl, rfl, by decide +kernel, rfl, by decide +kernel, by decide +kernel⟩
def spSteps (C D : Addr) : Sp := fun vs H Q _ => ∃ (p L : Addr) (as : List Ac), vs = [.ref p] ∧ CardP D H p L ∧ ActsR C H L as ∧ ∀ B ys H', H B = none → H' B = some (.lst ys) → RAll C H' ys (stepsOf as) → Same H H' → Q (.ref B) H'
theorem ok_steps {C D : Addr} (T : Crd K mg D) {f : Addr} {fd : FuncData} (M : Fun K "steps" "Card.steps" sSteps f fd) : FnOk P w K mg base CX0 1 f fd ["self"] (spSteps C D) := by
  refine M.ok scSteps (fun vs H Q E h => ?_) (fun cdv A outer s H vs Q E hr h => ?_)
  · obtain ⟨p, L, as, rfl, _⟩ := h
    rfl
  · obtain ⟨p, L, as, rfl, ⟨dx, hp⟩, ⟨⟨xs, hL, hA⟩, hz⟩, k⟩ := h
    have hu := hu_of hr
    refine ⟨_, (pss_one (ps_ret (pe_lc (own := [("act", 1)]) (g := gName 1) (tt := _) rfl scSteps.nd (pi_list (pe_fld (pv 0) rfl)) (blkOk_by (N := ["self", "act"]) (sc := defScope sSteps) (by decide +kernel)) (fun _ _ _ _ _ => pg_name (i := 1) scSteps.nd rfl (Or.inl rfl)) (fun _ _ _ _ _ => pts_one (pt_cmpR op_ne (pe_ix (show IxR _ (rIxT K) from ix_tup) (pv 1) pe_int (fun _ _ => rfl)) pe_str (nomark _))) (fun _ _ _ _ _ => (pv 1))))), ?_⟩
    refine ⟨_, rfl, p, D, dx, _, .ref L, rfl, hp, T.cl, T.nA, rfl, L, rfl, ⟨_, sql_of hL⟩, fun B nB => ?_⟩
    refine lc_pick walk_list as noRu (fun H v a => AcR C H v a) (fun _ _ _ _ q z => z.kt q) nB (fun H2 s2 => sql_of (s2 _ _ hL)) hA.len (by have := hA.len; omega) (fun i x c H2 Yes No hx hc s2 hY hN => ?_) (fun H2 ys hB hR s2 => k B ys H2 nB hB hR s2)
    obtain ⟨c', hc', hxc⟩ := hA.at_ hx
    obtain rfl : c' = c := Option.some.inj (hc'.symm.trans hc)
    have hx2 := hxc.kt (.same s2)
    obtain ⟨t, zs, rfl, ht, _⟩ := hx2.lab
    refine ⟨rfl, _, rfl, t, _, 0, .str c'.lab, rfl, rfl, sql_ofT ht, at0, rfl, _, rfl, ite2 (fun e => ?_) (fun e => ?_)⟩
    · exact ⟨_, rfl, hY _ _ _ (ne_ru e) (.refl _) hx2⟩
    · exact hN _ (eq_ru e) (.refl _)
end
end DO

namespace DO
open PySem PySem.Spec PyProof.Rows L2
section
variable {P : Program} {w : World} {K : PySem.W.Frag} {mg : Str → Option Value} {base : Heap}
structure Fk (P : Program) (w : World) (K : PySem.W.Frag) (mg : Str → Option Value) (base : Heap) (k : Nat) (x : Str) (st : Stmt) (ps : List Str) (sp : Sp) where
  D : Df K mg x st ps
  G : FnOk P w K mg base CX0 k D.f D.fd ps sp
/-- a property of the class at D -/
structure Pk (P : Program) (w : World) (K : PySem.W.Frag) (mg : Str → Option Value) (base : Heap) (k : Nat) (D : Addr) (x : Str) (sp : Sp) where
  pa : Addr
  f : Addr
  fd : FuncData
  pr : PropOf K D x pa f
  bd : Binds K fd ["self"] []
  G : FnOk P w K mg base CX0 k f fd ["self"] sp
theorem inV_str (z : Str) (l : List Str) : inV (.str z) (l.map V.str) = decide (z ∈ l) := by
  induction l with
  | nil => rfl
  | cons x r ih =>
    unfold inV at ih ⊢
    rw [List.map_cons, List.any_cons, ih]
    have e : eqV (.str x) (.str z) = decide (x = z) := by
      show (x == z) = decide (x = z)
      rw [Bool.eq_iff_iff]
      simp
    rw [e]
    by_cases h : x = z
    · subst h
      simp
    · have h' : ¬ z = x := fun w => h w.symm
      simp [h, h']
theorem flat_strs (l : List Str) : (l.map V.str).all flatV = true := by
  rw [List.all_eq_true]
  intro x hx
  obtain ⟨z, _, rfl⟩ := List.mem_map.mp hx
  rfl
def namesOf (as : List Ac) : List Str := (stepsOf as).map Ac.nm
def taken (as : List Ac) (z : Str) : Bool := decide (z ∈ namesOf as)
def aRu (a : Ac) : Option Ac := if a.isRu = true then some a else none
def rulesOf (as : List Ac) : List Ac := as.filterMap aRu
theorem is_ru {a : Ac} (e : decide (V.str a.lab = V.str (Str.ofString "rule")) = true) : aRu a = some a := by
  rw [lab_ru] at e
  unfold aRu
  rw [if_pos e]
theorem not_ru {a : Ac} (e : ¬ decide (V.str a.lab = V.str (Str.ofString "rule")) = true) : aRu a = none := by
  rw [lab_ru] at e
  unfold aRu
  rw [if_neg e]
/-- a list of texts, by the acts that it is made of -/
theorem strs_of {H : Hp} {as : List Ac} {ys : List V} (h : All2 (fun v (z : Str) => v = V.str z) ys (as.map Ac.nm)) : ys = (as.map Ac.nm).map V.str := by
  generalize as.map Ac.nm = l at h
  induction h with
  | nil => rfl
  | cons e _ ih => rw [List.map_cons, ← ih, e]
/-- the items of a rule, behind its label -/
def RuleR (C : Addr) (H : Hp) (v : V) (a : Ac) : Prop := ∃ t xs, v = .ref t ∧ H t = some (.tup xs) ∧ match a with
  | .ru u l n ts ps => RuR C H xs u l n ts ps
  | _ => False
theorem RuleR.kt {C : Addr} {H H' : Hp} {v : V} {a : Ac} (h : RuleR C H v a) (k : Kt H H') : RuleR C H' v a := by
  obtain ⟨t, xs, e, h1, h2⟩ := h
  refine ⟨t, xs, e, k.tup _ _ h1, ?_⟩
  cases a with
  | ru u l n ts ps => exact h2.kt k
  | _ => exact h2
/-! ### a new card -/
abbrev sCini : Stmt := inClass sCrd 0
theorem scCini : FnScope ["self"] ["self"] (defScope sCini) := ⟨rfl, rfl, rfl, by decide +kernel, rfl, by decide +kernel, by decide +kernel⟩
def spCini (D : Addr) : Sp := fun vs H Q _ => ∃ (p dx : Addr), vs = [.ref p] ∧ H p = some (.ins D dx []) ∧ ∀ L H', H L = none → H' p = some (.ins D dx [("_acts", .ref L)]) → H' L = some (.lst []) → (∀ b o, H b = some o → b ≠ p → H' b = some o) → Q .non H'
theorem ok_cini {D : Addr} (T : Crd K mg D) (M : Mf K D "__init__" "Card.__init__" sCini ["self"]) : FnOk P w K mg base CX0 1 M.f M.fd ["self"] (spCini D) := by
  refine M.fn.ok scCini (fun vs H Q E h => ?_) (fun cdv A outer s H vs Q E hr h => ?_)
  · obtain ⟨p, dx, rfl, _⟩ := h
    rfl
  · obtain ⟨p, dx, rfl, hp, k⟩ := h
    refine ⟨_, (pss_one (ps_fld (pv 0) (pe_lst pa_nil) rfl)), ?_⟩
    refine ⟨Nat.zero_le _, fun L nL => ?_⟩
    have npL : p ≠ L := ne_of_none hp nL
    refine ⟨_, rfl, p, D, dx, _, rfl, (by rw [upd_ne npL]; exact hp), T.cl, T.nA, (by show 0 < 1000; decide), ?_⟩
    refine k L _ nL upd_same (by rw [upd_ne npL.symm, upd_same]) fun b o e nb => ?_
    rw [upd_ne nb, upd_ne (ne_of_none e nL)]
    exact e
/-! ### acts -/
abbrev sActs : Stmt := inClass sCrd 1
theorem scActs : FnScope ["self"] ["self"] (defScope sActs) := ⟨rfl, rfl, rfl, by decide +kernel, rfl, by decide +kernel, by decide +kernel⟩
def spActs (C D : Addr) : Sp := fun vs H Q _ => ∃ (p L : Addr) (as : List Ac), vs = [.ref p] ∧ CardP D H p L ∧ ActsR C H L as ∧ ∀ B ys H', H B = none → H' B = some (.lst ys) → RAll C H' ys as → Same H H' → Q (.ref B) H'
theorem ok_acts {C D : Addr} (T : Crd K mg D) {f : Addr} {fd : FuncData} (M : Fun K "acts" "Card.acts" sActs f fd) (ml : mg "list" = none) : FnOk P w K mg base CX0 1 f fd ["self"] (spActs C D) := by
  refine M.ok scActs (fun vs H Q E h => ?_) (fun cdv A outer s H vs Q E hr h => ?_)
  · obtain ⟨p, L, as, rfl, _⟩ := h
    rfl
  · obtain ⟨p, L, as, rfl, ⟨dx, hp⟩, ⟨⟨xs, hL, hA⟩, hz⟩, k⟩ := h
    refine ⟨_, (pss_one (ps_ret (pe_callTy call_list_of (by rfl) ml (by decide +kernel) (pa_cons (pe_fld (pv 0) rfl) pa_nil)))), ?_⟩
    refine ⟨_, rfl, p, D, dx, _, .ref L, rfl, hp, T.cl, T.nA, rfl, L, xs, rfl, .inl (sql_of hL), fun B nB => ?_⟩
    exact k B xs _ nB upd_same (hA.kt (.same (same_upd nB))) (same_upd nB)
/-! ### rules -/
abbrev sRules : Stmt := inClass sCrd 3
theorem scRules : FnScope ["self", "act"] ["self"] (defScope sRules) := ⟨rfl, rfl, rfl, by decide +kernel, rfl, by decide +kernel, by decide +kernel⟩
def spRules (C D : Addr) : Sp := fun vs H Q _ => ∃ (p L : Addr) (as : List Ac), vs = [.ref p] ∧ CardP D H p L ∧ ActsR C H L as ∧ ∀ B ys H', H B = none → H' B = some (.lst ys) → All2 (RuleR C H') ys (rulesOf as) → Same H H' → Q (.ref B) H'
theorem ok_rules {C D : Addr} (T : Crd K mg D) {f : Addr} {fd : FuncData} (M : Fun K "rules" "Card.rules" sRules f fd) : FnOk P w K mg base CX0 1 f fd ["self"] (spRules C D) := by
  refine M.ok scRules (fun vs H Q E h => ?_) (fun cdv A outer s H vs Q E hr h => ?_)
  · obtain ⟨p, L, as, rfl, _⟩ := h
    rfl
  · obtain ⟨p, L, as, rfl, ⟨dx, hp⟩, ⟨⟨xs, hL, hA⟩, hz⟩, k⟩ := h
    have hu := hu_of hr
    refine ⟨_, (pss_one (ps_ret (pe_lc (own := [("act", 1)]) (g := gName 1) (tt := _) rfl scRules.nd (pi_list (pe_fld (pv 0) rfl)) (blkOk_by (N := ["self", "act"]) (sc := defScope sRules) (by decide +kernel)) (fun _ _ _ _ _ => pg_name (i := 1) scRules.nd rfl (Or.inl rfl)) (fun _ _ _ _ _ => pts_one (pt_cmpR op_eq (pe_ix (show IxR _ (rIxT K) from ix_tup) (pv 1) pe_int (fun _ _ => rfl)) pe_str (nomark _))) (fun _ _ _ _ _ => (pe_slice (show SlR _ (rSlT K) from sl_tup) (pv 1) (po_some pe_int) po_none))))), ?_⟩
    refine ⟨_, rfl, p, D, dx, _, .ref L, rfl, hp, T.cl, T.nA, rfl, L, rfl, ⟨_, sql_of hL⟩, fun B nB => ?_⟩
    refine lc_pick walk_list as aRu (fun H v a => RuleR C H v a) (fun _ _ _ _ q z => z.kt q) nB (fun H2 s2 => sql_of (s2 _ _ hL)) hA.len (by have := hA.len; omega) (fun i x c H2 Yes No hx hc s2 hY hN => ?_) (fun H2 ys hB hR s2 => k B ys H2 nB hB hR s2)
    obtain ⟨c', hc', hxc⟩ := hA.at_ hx
    obtain rfl : c' = c := Option.some.inj (hc'.symm.trans hc)
    have hx2 := hxc.kt (.same s2)
    obtain ⟨t, zs, rfl, ht, _⟩ := hx2.lab
    refine ⟨rfl, _, rfl, t, _, 0, .str c'.lab, rfl, rfl, sql_ofT ht, at0, rfl, _, rfl, ite2 (fun e => ?_) (fun e => ?_)⟩
    · have hru := is_ru e
      obtain ⟨t', xs', e', h1, h2⟩ := hx2
      cases e'
      cases c' with
      | ru u l n ts ps =>
        obtain ⟨ys, rfl, f0, q0, us0, rfl, h3⟩ := h2
        refine ⟨_, rfl, 1, rfl, t, _, rfl, sql_ofT h1, (show ¬ (HT.sIx 5 0 (some 1) = 0 ∧ HT.sIx 5 5 none = 5) by decide), fun z nz => ?_⟩
        have sz := same_upd (o := .tup (cutV [V.str "rule", V.str u, V.str l, V.ref f0, V.ref q0] (some 1) none)) nz
        exact hY _ _ _ hru sz ⟨z, _, rfl, upd_same, RuR.kt ⟨f0, q0, us0, rfl, h3⟩ (.same sz)⟩
      | _ => cases hru
    · exact hN _ (not_ru e) (.refl _)
/-! ### name in card -/
abbrev sCin : Stmt := inClass sCrd 4
theorem scCin : FnScope ["self", "x", "step"] ["self", "x"] (defScope sCin) := ⟨rfl, rfl, rfl, by decide +kernel, rfl, by decide +kernel, by decide +kernel⟩
def spCin (C D : Addr) : Sp := fun vs H Q _ => ∃ (p L : Addr) (as : List Ac) (z : Str), vs = [.ref p, .str z] ∧ CardP D H p L ∧ ActsR C H L as ∧ ∀ H', Same H H' → Q (.bl (taken as z)) H'
theorem step_len (as : List Ac) : (stepsOf as).length ≤ as.length := List.length_filterMap_le _ _
theorem stepsOf_no {as : List Ac} {a : Ac} (h : a ∈ stepsOf as) : a.isRu = false := by
  obtain ⟨b, _, hb⟩ := List.mem_filterMap.mp h
  obtain ⟨rfl, e⟩ := noRu_some hb
  exact e
theorem ok_cin {C D : Addr} (T : Crd K mg D) (M : Mf K D "__contains__" "Card.__contains__" sCin ["self", "x"]) (PS : Pk P w K mg base 1 D "steps" (spSteps C D)) : FnOk P w K mg base CX0 3 M.f M.fd ["self", "x"] (spCin C D) := by
  refine M.fn.ok scCin (fun vs H Q E h => ?_) (fun cdv A outer s H vs Q E hr h => ?_)
  · obtain ⟨p, L, as, z, rfl, _⟩ := h
    rfl
  · obtain ⟨p, L, as, z, rfl, hp, hA, k⟩ := h
    have hu := hu_of hr
    refine ⟨_, (pss_one (ps_ret (pe_cmpR (show OpR _ _ (rIn K false) from op_in_seq) (pv 1) (pe_lc (own := [("step", 2)]) (g := gName 2) (tt := tYes) rfl scCin.nd (pi_list (pe_prop (pv 0) T.cl PS.pr PS.G (hr.mono (by decide)) PS.bd .nil pass0 rfl)) (blkOk_by (N := ["self", "x", "step"]) (sc := defScope sCin) (by decide +kernel)) (fun _ _ _ _ _ => pg_name (i := 2) scCin.nd rfl (Or.inl rfl)) (fun _ _ _ _ _ => pts_nil) (fun _ _ _ _ _ => (pe_ix (show IxR _ (rIxT K) from ix_tup) (pv 2) pe_int (fun _ _ => rfl)))) rfl))), ?_⟩
    obtain ⟨dx, hp'⟩ := id hp
    refine ⟨_, rfl, _, rfl, p, dx, _, rfl, hp', p, L, as, rfl, hp, hA, fun B ys H1 nB hB hR s1 => ⟨B, rfl, ⟨_, sql_of hB⟩, fun E1 nE => ?_⟩⟩
    have hsz := hA.sz
    have hsl := step_len as
    have hl := hR.len
    refine lc_pick walk_list (stepsOf as) (fun a => some a.nm) (fun _ v (y : Str) => v = .str y) (fun _ _ _ _ _ z => z) nE (fun H2 s2 => sql_of (s2 _ _ hB)) hl (by omega) (fun i x c H2 Yes No hx hc s2 hY hN => ?_) (fun H2 zs hE hZ s2 => ?_)
    · obtain ⟨c', hc', hxc⟩ := hR.at_ hx
      obtain rfl : c' = c := Option.some.inj (hc'.symm.trans hc)
      obtain ⟨t, ws, rfl, ht, hn⟩ := (hxc.kt (.same s2)).lab
      obtain ⟨ys2, rfl⟩ := hn (stepsOf_no (List.mem_of_getElem? hc))
      refine ⟨rfl, ⟨_, rfl, t, _, 1, .str c'.nm, rfl, rfl, sql_ofT ht, at1, hY _ _ _ rfl (.refl _) rfl⟩⟩
    · have e : zs = (namesOf as).map V.str := by
        refine strs_of (H := H2) (as := stepsOf as) ?_
        rw [← List.filterMap_eq_map]
        exact hZ
      subst e
      refine ⟨E1, _, rfl, .inl (sql_of hE), rfl, flat_strs _, ?_⟩
      have := k H2 (s1.trans s2)
      unfold taken at this
      rw [← inV_str] at this
      exact this
end
end DO

namespace DO
open PySem PySem.Spec PyProof.Rows L2
section
variable {P : Program} {w : World} {K : PySem.W.Frag} {mg : Str → Option Value} {base : Heap}
abbrev sXNameTaken : Stmt := inClass (top 3) 0
theorem scXNameTaken : FnScope ["self", "name"] ["self", "name"] (defScope sXNameTaken) := ⟨rfl, rfl, rfl, by decide +kernel, rfl, by decide +kernel, by decide +kernel⟩
theorem okX_NameTaken {f : Addr} {fd : FuncData} (F : Fun K "__init__" "NameTaken.__init__" sXNameTaken f fd) : FnOk P w K mg base CX0 1 f fd ["self", "name"] (spX1 K "name") := by
  refine F.ok scXNameTaken (fun vs H Q E h => ?_) (fun cdv A outer s H vs Q E hr h => ?_)
  · obtain ⟨a, C, y, rfl, _⟩ := h
    rfl
  · obtain ⟨a, C, y, rfl, T, hno, ha, k⟩ := h
    refine ⟨_, pss_one (ps_ost (pv 0) (pv 1)), ?_⟩
    exact ⟨_, rfl, _, rfl, a, C, rfl, T, hno, .inl ⟨ha, fun dx n ne => k dx n ne⟩⟩
abbrev sXSamePart : Stmt := inClass (top 6) 0
theorem scXSamePart : FnScope ["self", "name"] ["self", "name"] (defScope sXSamePart) := ⟨rfl, rfl, rfl, by decide +kernel, rfl, by decide +kernel, by decide +kernel⟩
theorem okX_SamePart {f : Addr} {fd : FuncData} (F : Fun K "__init__" "SamePart.__init__" sXSamePart f fd) : FnOk P w K mg base CX0 1 f fd ["self", "name"] (spX1 K "name") := by
  refine F.ok scXSamePart (fun vs H Q E h => ?_) (fun cdv A outer s H vs Q E hr h => ?_)
  · obtain ⟨a, C, y, rfl, _⟩ := h
    rfl
  · obtain ⟨a, C, y, rfl, T, hno, ha, k⟩ := h
    refine ⟨_, pss_one (ps_ost (pv 0) (pv 1)), ?_⟩
    exact ⟨_, rfl, _, rfl, a, C, rfl, T, hno, .inl ⟨ha, fun dx n ne => k dx n ne⟩⟩
abbrev sXTurnTwice : Stmt := inClass (top 9) 0
theorem scXTurnTwice : FnScope ["self", "name"] ["self", "name"] (defScope sXTurnTwice) := ⟨rfl, rfl, rfl, by decide +kernel, rfl, by decide +kernel, by decide +kernel⟩
theorem okX_TurnTwice {f : Addr} {fd : FuncData} (F : Fun K "__init__" "TurnTwice.__init__" sXTurnTwice f fd) : FnOk P w K mg base CX0 1 f fd ["self", "name"] (spX1 K "name") := by
  refine F.ok scXTurnTwice (fun vs H Q E h => ?_) (fun cdv A outer s H vs Q E hr h => ?_)
  · obtain ⟨a, C, y, rfl, _⟩ := h
    rfl
  · obtain ⟨a, C, y, rfl, T, hno, ha, k⟩ := h
    refine ⟨_, pss_one (ps_ost (pv 0) (pv 1)), ?_⟩
    exact ⟨_, rfl, _, rfl, a, C, rfl, T, hno, .inl ⟨ha, fun dx n ne => k dx n ne⟩⟩
abbrev sXBadCount : Stmt := inClass (top 8) 0
theorem scXBadCount : FnScope ["self", "options"] ["self", "options"] (defScope sXBadCount) := ⟨rfl, rfl, rfl, by decide +kernel, rfl, by decide +kernel, by decide +kernel⟩
theorem okX_BadCount {f : Addr} {fd : FuncData} (F : Fun K "__init__" "BadCount.__init__" sXBadCount f fd) : FnOk P w K mg base CX0 1 f fd ["self", "options"] (spX1 K "options") := by
  refine F.ok scXBadCount (fun vs H Q E h => ?_) (fun cdv A outer s H vs Q E hr h => ?_)
  · obtain ⟨a, C, y, rfl, _⟩ := h
    rfl
  · obtain ⟨a, C, y, rfl, T, hno, ha, k⟩ := h
    refine ⟨_, pss_one (ps_ost (pv 0) (pv 1)), ?_⟩
    exact ⟨_, rfl, _, rfl, a, C, rfl, T, hno, .inl ⟨ha, fun dx n ne => k dx n ne⟩⟩
abbrev sXCardFull : Stmt := inClass (top 11) 0
theorem scXCardFull : FnScope ["self", "kind"] ["self", "kind"] (defScope sXCardFull) := ⟨rfl, rfl, rfl, by decide +kernel, rfl, by decide +kernel, by decide +kernel⟩
theorem okX_CardFull {f : Addr} {fd : FuncData} (F : Fun K "__init__" "CardFull.__init__" sXCardFull f fd) : FnOk P w K mg base CX0 1 f fd ["self", "kind"] (spX1 K "kind") := by
  refine F.ok scXCardFull (fun vs H Q E h => ?_) (fun cdv A outer s H vs Q E hr h => ?_)
  · obtain ⟨a, C, y, rfl, _⟩ := h
    rfl
  · obtain ⟨a, C, y, rfl, T, hno, ha, k⟩ := h
    refine ⟨_, pss_one (ps_ost (pv 0) (pv 1)), ?_⟩
    exact ⟨_, rfl, _, rfl, a, C, rfl, T, hno, .inl ⟨ha, fun dx n ne => k dx n ne⟩⟩
abbrev sXBadOption : Stmt := inClass (top 10) 0
theorem scXBadOption : FnScope ["self", "name", "option"] ["self", "name", "option"] (defScope sXBadOption) := ⟨rfl, rfl, rfl, by decide +kernel, rfl, by decide +kernel, by decide +kernel⟩
theorem okX_BadOption {f : Addr} {fd : FuncData} (F : Fun K "__init__" "BadOption.__init__" sXBadOption f fd) : FnOk P w K mg base CX0 1 f fd ["self", "name", "option"] (spX2 K "name" "option") := by
  refine F.ok scXBadOption (fun vs H Q E h => ?_) (fun cdv A outer s H vs Q E hr h => ?_)
  · obtain ⟨a, C, y, z, rfl, _⟩ := h
    rfl
  · obtain ⟨a, C, y, z, rfl, T, h1, h2, ha, k⟩ := h
    refine ⟨_, pss_cons (ps_ost (pv 0) (pv 1)) (pss_one (ps_ost (pv 0) (pv 2))), ?_⟩
    exact ⟨_, rfl, _, rfl, a, C, rfl, T, h1, .inl ⟨ha, fun dx n ne => ⟨_, rfl, _, rfl, a, C, rfl, T, h2, .inr ⟨dx, _, upd_same, (by rw [upd_ne ne]; exact upd_same), (by show 1 ≤ 900; decide), k dx n ne⟩⟩⟩⟩
/-! ### an error without an __init__ of its own, made with nothing -/
section
variable {X : Cx} {C : Addr} {bmB : List Value} {B newId initId : String}
theorem pmk_own0N {x : Str} {p pos : Pos} (F : ExcBaseFacts B newId initId bmB) (q : PySem.W.excIn X.K C bmB newId = true) (gC : X.mg x = some (.ref C)) (kC : PySem.W.keepIn X.K (.ref C) = true) (r : Raises X (.ref C)) (hg : Gl X x)
    (hdb : (x == ("__debug__" : Str)) = false := by decide) : L2N.PMk X (.Call (.Name x p) [] [] pos) (fun _ H Q => Q (.ref C) none H) := by
  intro pins s σ H Q I h
  refine wpAny_Call_Name_kw (ld_glob I hg gC ?_ hdb)
  refine PySem.W.callWith_K0 I.kIn kC ?_
  show wpAny _ _ (call (.ref C) []) _ _ _
  obtain ⟨bm, N, nm, qn, bs, hdct, sn, sub, ab, col, dd, k0, k1, k2, k3, k5, mN, hC, hN, hni, T⟩ := exc_obj I.kIn q
  refine wpAny_call_exc_subT F T hC hN hni (fun h' e hm => ?_) (Nat.zero_le _)
  exact L2N.mk_of I hm r h (I.hok.gone hm.new)
end
/-! ### the errors, as the calls tell them -/
inductive Er where
  | nam (i : Nat) (w : Str)
  | ends (lo hi : Int)
  | cnt (k : Int)
  | opt (w : Str) (k : Int)
  | ful (kd : Str)
  | emp
/-- the number of its class; nam i: 0 BadName, 1 NameTaken, 2 UnknownName, 3 UnlikeEnds, 4 SamePart, 5 TurnTwice -/
def Er.ix : Er → Nat
  | .nam i _ => i
  | .ends _ _ => 6
  | .cnt _ => 7
  | .opt _ _ => 8
  | .ful _ => 9
  | .emp => 10
def Er.fs : Er → List (Str × V)
  | .nam _ w => [("name", .str w)]
  | .ends lo hi => [("high", .int hi), ("low", .int lo)]
  | .cnt k => [("options", .int k)]
  | .opt w k => [("option", .int k), ("name", .str w)]
  | .ful kd => [("kind", .str kd)]
  | .emp => []
def xName : Nat → Str
  | 0 => "BadName" | 1 => "NameTaken" | 2 => "UnknownName" | 3 => "UnlikeEnds" | 4 => "SamePart" | 5 => "TurnTwice" | 6 => "BadEnds" | 7 => "BadCount" | 8 => "BadOption" | 9 => "CardFull" | _ => "CardEmpty"
/-- as the law tells it: the label and what it keeps -/
def Er.its : Er → List V
  | .nam i w => [.str (xName i), .str w]
  | .ends lo hi => [.str "BadEnds", .int lo, .int hi]
  | .cnt k => [.str "BadCount", .int k]
  | .opt w k => [.str "BadOption", .str w, .int k]
  | .ful kd => [.str "CardFull", .str kd]
  | .emp => [.str "CardEmpty"]
/-- the call is left by this error -/
def Thr (E : XK) (xc : Nat → Addr) (H : Hp) (e : Er) : Prop := match e with
  | .emp => ∀ H', Same H H' → E (.ref (xc 10)) none H'
  | e => Thrown E (xc e.ix) H e.fs
theorem Thr.same {E : XK} {xc : Nat → Addr} {H H' : Hp} {e : Er} (t : Thr E xc H e) (k : Same H H') : Thr E xc H' e := by
  cases e with
  | emp => exact fun H2 s => t H2 (k.trans s)
  | _ => exact Thrown.same t k
/-- the classes of errors of the text -/
structure Xs (K : PySem.W.Frag) (mg : Str → Option Value) where
  x0 : Xc K mg "BadName" "BadName.__init__" sXBadName ["name"] ["self", "name"]
  x1 : Xc K mg "NameTaken" "NameTaken.__init__" sXNameTaken ["name"] ["self", "name"]
  x2 : Xc K mg "UnknownName" "UnknownName.__init__" sXUnknownName ["name"] ["self", "name"]
  x3 : Xc K mg "UnlikeEnds" "UnlikeEnds.__init__" sXUnlikeEnds ["name"] ["self", "name"]
  x4 : Xc K mg "SamePart" "SamePart.__init__" sXSamePart ["name"] ["self", "name"]
  x5 : Xc K mg "TurnTwice" "TurnTwice.__init__" sXTurnTwice ["name"] ["self", "name"]
  x6 : Xc K mg "BadEnds" "BadEnds.__init__" sXBadEnds ["low", "high"] ["self", "low", "high"]
  x7 : Xc K mg "BadCount" "BadCount.__init__" sXBadCount ["options"] ["self", "options"]
  x8 : Xc K mg "BadOption" "BadOption.__init__" sXBadOption ["name", "option"] ["self", "name", "option"]
  x9 : Xc K mg "CardFull" "CardFull.__init__" sXCardFull ["kind"] ["self", "kind"]
  ce : Addr
  gC : mg "CardEmpty" = some (.ref ce)
  kC : PySem.W.keepIn K (.ref ce) = true
  bC : PySem.W.subIn K (.ref ce) (.type "BaseException") = some true
  tC : PySem.W.typeIn K (.ref ce) = some (.type "type")
  eC : PySem.W.excIn K ce [.type "ValueError", .type "Exception", .type "BaseException", .type "object"] "ValueError.__new__" = true
def Xs.c (X : Xs K mg) : Nat → Addr
  | 0 => X.x0.C | 1 => X.x1.C | 2 => X.x2.C | 3 => X.x3.C | 4 => X.x4.C | 5 => X.x5.C | 6 => X.x6.C | 7 => X.x7.C | 8 => X.x8.C | 9 => X.x9.C | _ => X.ce
end
end DO

namespace DO
open PySem PySem.Spec PyProof.Rows L2
section
variable {P : Program} {w : World} {K : PySem.W.Frag} {mg : Str → Option Value} {base : Heap}
structure FkN (P : Program) (w : World) (K : PySem.W.Frag) (mg : Str → Option Value) (base : Heap) (k : Nat) (x : Str) (st : Stmt) (ps : List Str) (sp : Sp) where
  D : Df K mg x st ps
  G : FnOk P w K mg base (L2N.CX P w) k D.f D.fd ps sp
structure Me (P : Program) (w : World) (K : PySem.W.Frag) (mg : Str → Option Value) (base : Heap) (k : Nat) (C : Addr) (x qual : Str) (st : Stmt) (ps : List Str) (sp : Sp) where
  M : Mf K C x qual st ps
  G : FnOk P w K mg base CX0 k M.f M.fd ps sp
/-- a name that a step could have -/
def okS (z : Str) : Bool := okNm z.cps.toList
def nameDue (as : List Ac) (z : Str) : Option Er := if okS z = true then (if taken as z = true then some (.nam 1 z) else none) else some (.nam 0 z)
/-! ### a new name -/
abbrev sCnn : Stmt := top 31
theorem scCnn : FnScope ["card", "name"] ["card", "name"] (defScope sCnn) := ⟨rfl, rfl, rfl, by decide +kernel, rfl, by decide +kernel, by decide +kernel⟩
def spCnn (C D : Addr) (xc : Nat → Addr) : Sp := fun vs H Q E => ∃ (p L : Addr) (as : List Ac) (z : Str), vs = [.ref p, .str z] ∧ CardP D H p L ∧ ActsR C H L as ∧ z.cps.toList.length ≤ 900 ∧ (∀ e, nameDue as z = some e → Thr E xc H e) ∧ (nameDue as z = none → ∀ H', Same H H' → Q .non H')
theorem ok_cnn {C D : Addr} (DF : Df K mg "_check_new_name" sCnn ["card", "name"]) (XS : Xs K mg) (CN : FkN P w K mg base 4 "check_name" sChn ["text"] (spChn XS.x0.C)) (CI : Me P w K mg base 3 D "__contains__" "Card.__contains__" sCin ["self", "x"] (spCin C D)) : FnOk P w K mg base (L2N.CX P w) 5 DF.f DF.fd ["card", "name"] (spCnn C D XS.c) := by
  have F1 : FnOk P w K mg base CX0 1 XS.x1.f XS.x1.fd ["self", "name"] (spX1 K "name") := okX_NameTaken XS.x1.fn
  refine okN DF.fn scCnn (fun vs H Q E h => ?_) (fun cdv A outer s H vs Q E hr h => ?_)
  · obtain ⟨p, L, as, z, rfl, _⟩ := h
    rfl
  · obtain ⟨p, L, as, z, rfl, hp, hA, hz, kx, k⟩ := h
    have hr2 : Room (1 + 1) _ := hr.mono (by decide)
    refine ⟨_, (pss_cons (ps_expr (pe_callS CN.G (hr.mono (by decide)) (by rfl) CN.D.mgf CN.D.fn.kp CN.D.bd (L2N.passAt (L2N.takes_of rfl rfl rfl rfl)) (pa_cons (pv 1) pa_nil)))
      (pss_one (ps_if (pt_cmpR (op_inO CI.M.me CI.G (hr.mono (by decide)) CI.M.bd pass0) (pv 1) (pv 0) rfl)
      (pss_one (L2N.ps_raise rfl (L2N.takes_of rfl rfl rfl rfl) (pmk_oexN (CX := CX0) XS.x1.ox XS.x1.iC XS.x1.tI F1 hr2 XS.x1.bd .nil (fun _ _ _ _ _ _ _ h => h.elim) (by rfl) XS.x1.gC (pa_cons (pv 1) pa_nil))))
      pss_nil))), ?_⟩
    refine ⟨_, rfl, z.cps.toList, by rw [tx_cps], hz, fun e => ?_, fun e H1 s1 => ?_⟩
    · have := kx (.nam 0 z) (by unfold nameDue okS; rw [e]; rfl)
      rw [tx_cps]
      exact this
    · obtain ⟨dx, hp'⟩ := id hp
      refine ⟨_, rfl, _, rfl, p, dx, _, rfl, s1 _ _ hp', p, L, as, z, rfl, hp.kt (.same s1), hA.same s1, fun H2 s2 => ⟨_, rfl, _, rfl, ite2 (fun e2 => ?_) (fun e2 => ?_)⟩⟩
      · exact ⟨_, rfl, read1 XS.x1.ox (XS.x1.no "name" List.mem_cons_self) ((kx (.nam 1 z) (by unfold nameDue okS; rw [e, e2]; rfl)).same (s1.trans s2))⟩
      · exact k (by unfold nameDue okS; rw [if_pos e, if_neg e2]) H2 (s1.trans s2)
/-! ### room on the card -/
def kindN (as : List Ac) (kd : Str) : Nat := (as.filter fun a => decide (a.lab = kd)).length
def mostN (kd : Str) : Int := if kd = "turn" then 3 else 6
def roomDue (as : List Ac) (kd : Str) : Option Er := if (kindN as kd : Int) ≥ mostN kd then some (.ful kd) else none
structure Mst (K : PySem.W.Frag) (w : World) (mg : Str → Option Value) where
  d : Addr
  g : mg "MOST_STEPS" = some (.ref d)
  at_ : ∀ kd ∈ (["measure", "turn", "part"] : List Str), KDct K w d kd (.int (mostN kd))
abbrev sCro : Stmt := top 32
theorem scCro : FnScope ["card", "kind", "step"] ["card", "kind"] (defScope sCro) := ⟨rfl, rfl, rfl, by decide +kernel, rfl, by decide +kernel, by decide +kernel⟩
def spCro (C D : Addr) (xc : Nat → Addr) : Sp := fun vs H Q E => ∃ (p L : Addr) (as : List Ac) (kd : Str), vs = [.ref p, .str kd] ∧ CardP D H p L ∧ ActsR C H L as ∧ kd ∈ (["measure", "turn", "part"] : List Str) ∧ (∀ e, roomDue as kd = some e → Thr E xc H e) ∧ (roomDue as kd = none → ∀ H', Same H H' → Q .non H')
def isLab (kd : Str) (a : Ac) : Option Ac := if a.lab = kd then some a else none
theorem lab_ne {kd : Str} (h : kd ∈ (["measure", "turn", "part"] : List Str)) : kd ≠ "rule" := by
  simp only [List.mem_cons, List.not_mem_nil, or_false] at h
  rcases h with rfl | rfl | rfl <;> decide
theorem lab_isRu {a : Ac} : a.isRu = true → a.lab = "rule" := by
  cases a with
  | ru u l n ts ps => exact fun _ => rfl
  | _ => exact fun z => by cases z
theorem kind_len {kd : Str} (h : kd ≠ "rule") : ∀ as : List Ac, ((stepsOf as).filterMap (isLab kd)).length = kindN as kd
  | [] => rfl
  | a :: r => by
    have ih := kind_len h r
    unfold stepsOf kindN at ih ⊢
    rw [List.filterMap_cons]
    cases e : a.isRu with
    | true =>
      have e1 : noRu a = none := by unfold noRu; rw [e]; rfl
      have e2 : decide (a.lab = kd) = false := decide_eq_false fun z => h (z.symm.trans (lab_isRu e))
      rw [e1, List.filter_cons, e2]
      exact ih
    | false =>
      have e1 : noRu a = some a := by unfold noRu; rw [e]; rfl
      rw [e1]
      show ((a :: List.filterMap noRu r).filterMap (isLab kd)).length = _
      rw [List.filterMap_cons, List.filter_cons]
      by_cases e2 : a.lab = kd
      · have e3 : isLab kd a = some a := if_pos e2
        rw [e3, decide_eq_true e2]
        show (_ :: _).length = (_ :: _).length
        rw [List.length_cons, List.length_cons, ih]
      · have e3 : isLab kd a = none := if_neg e2
        rw [e3, decide_eq_false e2]
        exact ih
theorem ok_cro {C D : Addr} (DF : Df K mg "_check_room" sCro ["card", "kind"]) (XS : Xs K mg) (T : Crd K mg D) (PS : Pk P w K mg base 1 D "steps" (spSteps C D)) (MS : Mst K w mg) (ml : mg "len" = none) : FnOk P w K mg base (L2N.CX P w) 3 DF.f DF.fd ["card", "kind"] (spCro C D XS.c) := by
  have F9 : FnOk P w K mg base CX0 1 XS.x9.f XS.x9.fd ["self", "kind"] (spX1 K "kind") := okX_CardFull XS.x9.fn
  refine okN DF.fn scCro (fun vs H Q E h => ?_) (fun cdv A outer s H vs Q E hr h => ?_)
  · obtain ⟨p, L, as, kd, rfl, _⟩ := h
    rfl
  · obtain ⟨p, L, as, kd, rfl, hp, hA, hk, kx, k⟩ := h
    have hr2 : Room (1 + 1) _ := hr.mono (by decide)
    refine ⟨_, (pss_one (ps_if (pt_cmpR op_ge (pe_callB call_len_seq (by rfl) ml PySem.boot_len (pa_cons (pe_lc (own := [("step", 2)]) (g := gName 2) (tt := _) rfl scCro.nd (pi_list (pe_prop (pv 0) T.cl PS.pr PS.G (hr.mono (by decide)) PS.bd .nil pass0 rfl)) (blkOk_by (N := ["card", "kind", "step"]) (sc := defScope sCro) (by decide +kernel)) (fun _ _ _ _ _ => pg_name (i := 2) scCro.nd rfl (Or.inl rfl)) (fun _ _ _ _ _ => pts_one (pt_cmpR op_eq (pe_ix (show IxR _ (rIxT K) from ix_tup) (pv 2) pe_int (fun _ _ => rfl)) (pv 1) (nomark _))) (fun _ _ _ _ _ => (pv 2))) pa_nil)) (pe_ix (show IxR _ (rIxD K w) from ix_kdict) (pe_glob (v := .ref MS.d) (by rfl) MS.g rfl) (pv 1) (fun _ _ => rfl)) (nomark _))
      (pss_one (L2N.ps_raise rfl (L2N.takes_of rfl rfl rfl rfl) (pmk_oexN (CX := CX0) XS.x9.ox XS.x9.iC XS.x9.tI F9 hr2 XS.x9.bd .nil (fun _ _ _ _ _ _ _ h => h.elim) (by rfl) XS.x9.gC (pa_cons (pv 1) pa_nil))))
      pss_nil)), ?_⟩
    obtain ⟨dx, hp'⟩ := id hp
    refine ⟨_, rfl, p, dx, _, rfl, hp', p, L, as, rfl, hp, hA, fun B ys H1 nB hB hR s1 => ⟨B, rfl, ⟨_, sql_of hB⟩, fun E1 nE => ?_⟩⟩
    have hsz := hA.sz
    have hsl := step_len as
    have hl := hR.len
    refine lc_pick walk_list (stepsOf as) (isLab kd) (fun _ _ _ => True) (fun _ _ _ _ _ z => z) nE (fun H2 s2 => sql_of (s2 _ _ hB)) hl (by omega) (fun i x c H2 Yes No hx hc s2 hY hN => ?_) (fun H2 zs hE hZ s2 => ?_)
    · obtain ⟨c', hc', hxc⟩ := hR.at_ hx
      obtain rfl : c' = c := Option.some.inj (hc'.symm.trans hc)
      obtain ⟨t, ws, rfl, ht, hn⟩ := (hxc.kt (.same s2)).lab
      refine ⟨rfl, _, rfl, t, _, 0, .str c'.lab, rfl, rfl, sql_ofT ht, at0, _, rfl, rfl, _, rfl, ite2 (fun e => ?_) (fun e => ?_)⟩
      · exact ⟨_, rfl, hY _ _ _ (if_pos (V.str.inj (of_decide_eq_true e))) (.refl _) trivial⟩
      · exact hN _ (if_neg fun z => e (decide_eq_true (congrArg V.str z))) (.refl _)
    · have s12 := s1.trans s2
      have hln : (zs.length : Int) = kindN as kd := by rw [hZ.len, kind_len (lab_ne hk)]
      refine ⟨_, _, rfl, .inl (sql_of hE), _, rfl, MS.d, kd, .int (mostN kd), rfl, rfl, MS.at_ kd hk, ?_⟩
      rw [hln]
      refine ⟨_, _, rfl, rfl, _, rfl, ite2 (fun e => ?_) (fun e => ?_)⟩
      · have e1 : (kindN as kd : Int) ≥ mostN kd := of_decide_eq_true e
        exact ⟨_, rfl, read1 XS.x9.ox (XS.x9.no "kind" List.mem_cons_self) ((kx (.ful kd) (if_pos e1)).same s12)⟩
      · have e1 : ¬ (kindN as kd : Int) ≥ mostN kd := fun z => e (decide_eq_true z)
        exact k (if_neg e1) H2 s12
end
end DO

namespace DO
open PySem PySem.Spec PyProof.Rows L2
section
variable {P : Program} {w : World} {K : PySem.W.Frag} {mg : Str → Option Value} {base : Heap}
/-! ### a dict comprehension over a list, item by item -/
theorem Kt.updK {H : Hp} {p : Addr} {xs ys : List (Key × V)} (h : H p = some (.dK xs)) : Kt H (L2.upd H p (.dK ys)) := fun c o e f => by
  by_cases z : c = p
  · subst z
    rw [h] at e
    cases e
    exact f.elim
  · rw [upd_ne z]
    exact e
section
variable {α β : Type}
/-- the items of a dict, as they stand -/
def KvR (Rv : Hp → V → β → Prop) (H : Hp) (kv : Key × V) (b : Str × β) : Prop := kv.1 = Sum.inr b.1 ∧ Rv H kv.2 b.2
theorem kv_keys {Rv : Hp → V → β → Prop} {H : Hp} {kvs : List (Key × V)} {bs : List (Str × β)} (h : All2 (KvR Rv H) kvs bs) (w : Str) : (kvs.any fun kv => decide (kv.1 = (Sum.inr w : Key))) = bs.any fun b => decide (b.1 = w) := by
  induction h with
  | nil => rfl
  | cons a _ ih =>
    rw [List.any_cons, List.any_cons, ih, a.1]
    congr 1
    rw [Bool.eq_iff_iff]
    simp
theorem kv_put {Rv : Hp → V → β → Prop} {H : Hp} {kvs : List (Key × V)} {bs : List (Str × β)} (h : All2 (KvR Rv H) kvs bs) {b : Str × β} {v : V} (hv : Rv H v b.2) (hn : b.1 ∉ bs.map (·.1)) : All2 (KvR Rv H) (putK kvs (Sum.inr b.1) v) (bs ++ [b]) := by
  have e : (kvs.any fun kv => decide (kv.1 = (Sum.inr b.1 : Key))) = false := by
    rw [kv_keys h]
    rw [Bool.eq_false_iff]
    intro z
    obtain ⟨c, hc, ec⟩ := List.any_eq_true.mp z
    exact hn (List.mem_map.mpr ⟨c, hc, of_decide_eq_true ec⟩)
  unfold putK
  rw [e]
  exact h.app (.one ⟨rfl, hv⟩)
theorem kv_get {Rv : Hp → V → β → Prop} {H : Hp} {kvs : List (Key × V)} {bs : List (Str × β)} (h : All2 (KvR Rv H) kvs bs) (w : Str) :
    (bs.find? (fun b => decide (b.1 = w)) = none ∧ valV kvs (Sum.inr w : Key) = none) ∨ ∃ b v, bs.find? (fun b => decide (b.1 = w)) = some b ∧ valV kvs (Sum.inr w : Key) = some v ∧ Rv H v b.2 := by
  unfold valV
  induction h with
  | nil => exact .inl ⟨rfl, rfl⟩
  | @cons kv b kvs bs a _ ih =>
    rw [List.find?_cons, List.find?_cons, a.1]
    by_cases e : b.1 = w
    · rw [decide_eq_true e, decide_eq_true (congrArg Sum.inr e : (Sum.inr b.1 : Key) = Sum.inr w)]
      exact .inr ⟨b, kv.2, rfl, rfl, a.2⟩
    · rw [decide_eq_false e, decide_eq_false (fun z => e (Sum.inr.inj z) : ¬ (Sum.inr b.1 : Key) = Sum.inr w)]
      exact ih
theorem dc_pick {J : It} {G : Hp → Prop} {xs : List V} (wk : Walk J xs.length G (YAt xs)) (as : List α) (φ : α → Option (Str × β)) (Rv : Hp → V → β → Prop) (my : ∀ H H' v b, Kt H H' → Rv H v b → Rv H' v b)
    {g : TG} {tt : TT} {tk tv : TE} {vs : List Nat} {σ : L2.St} {H1 : Hp} {D : Addr} {Qd : Hp → Prop} (nD : H1 D = none) (hG : ∀ H2, Same H1 H2 → G H2) (hl : xs.length = as.length) (hz : xs.length ≤ 1000) (hnd : ((as.filterMap φ).map (·.1)).Nodup)
    (hs : ∀ (i : Nat) (x : V) (c : α) (H2 : Hp) (Yes : V → V → Hp → Prop) (No : Hp → Prop), xs[i]? = some x → as[i]? = some c → Same H1 H2 → (∀ w v H5 r, φ c = some (w, r) → Same H2 H5 → Rv H5 v r → Yes (.str w) v H5) → (∀ H4, φ c = none → Same H2 H4 → No H4) →
      g x (wipe σ vs) H2 fun σ2 H3 => wipe σ2 vs = wipe σ vs ∧ tt σ2 H3 fun b H4 => if b = true then tk σ2 H4 fun y H5 => tv σ2 H5 fun z H6 => Yes y z H6 else No H4)
    (hd : ∀ H2 kvs, H2 D = some (.dK kvs) → All2 (KvR Rv H2) kvs (as.filterMap φ) → Same H1 H2 → Qd H2) :
    ∃ W : Nat → Nat → Hp → Prop, (∃ m, W 0 m (upd H1 D (.dK []))) ∧ ∀ i m H, W i m H →
      (J.stop i H ∧ Qd H) ∨ (J.go i H ∧ ∃ Nx : Hp → Prop, (∀ H', Nx H' → ∃ m', m' < m ∧ W (i + 1) m' H') ∧ ∀ x H', J.yld i H x H' → g x (wipe σ vs) H' fun σ2 H2 => wipe σ2 vs = wipe σ vs ∧ tt σ2 H2 fun b H3 =>
        if b = true then tk σ2 H3 fun y H4 => tv σ2 H4 fun z H5 => ∃ kvs k, y = kV k ∧ H5 D = some (.dK kvs) ∧ kvs.length < sizeLine ∧ Nx (upd H5 D (.dK (putK kvs k z))) else Nx H3) := by
  refine dc_it wk (fun i H2 => ∃ ys, H2 D = some (.dK ys) ∧ All2 (KvR Rv H2) ys ((as.take i).filterMap φ) ∧ Same H1 H2) ⟨[], upd_same, .nil, same_upd nD⟩ (fun i H _ ⟨_, _, _, z⟩ => hG H z) ?_ ?_
  · rintro i x H2 H3 hi ⟨ys, hD, hA, s2⟩ ⟨rfl, hx⟩
    have hc : as[i]? = some (as[i]'(by omega)) := List.getElem?_eq_getElem (by omega)
    generalize (as[i]'(by omega)) = c at hc
    have tk1 : (as.take (i + 1)).filterMap φ = (as.take i).filterMap φ ++ [c].filterMap φ := by rw [List.take_add_one, hc, Option.toList_some, List.filterMap_append]
    refine hs i x c H3 _ _ hx hc s2 (fun w v H5 r e s5 hy => ?_) (fun H4 e s4 => ?_)
    · have h5 := s5 _ _ hD
      have e1 : [c].filterMap φ = [(w, r)] := by simp [e]
      refine ⟨ys, Sum.inr w, rfl, h5, ?_, _, upd_same, ?_, ?_⟩
      · have l1 := hA.len
        have l2 : ((as.take i).filterMap φ).length ≤ i := Nat.le_trans (List.length_filterMap_le _ _) (by rw [List.length_take]; omega)
        exact small1000 (by omega)
      · rw [tk1, e1]
        have k5 : Kt H5 (upd H5 D (.dK (putK ys (Sum.inr w) v))) := Kt.updK h5
        have k35 := (Kt.same s5).trans k5
        refine kv_put (b := (w, r)) (hA.mono fun _ _ z => ⟨z.1, my _ _ _ _ k35 z.2⟩) (my _ _ _ _ k5 hy) fun hm => ?_
        have hsp : as.filterMap φ = (as.take i).filterMap φ ++ ([(w, r)] ++ (as.drop (i + 1)).filterMap φ) := by
          rw [← e1, ← List.append_assoc, ← tk1, ← List.filterMap_append, List.take_append_drop]
        rw [hsp, List.map_append, List.map_append] at hnd
        exact (List.nodup_append.mp hnd).2.2 _ hm _ (List.mem_append_left _ List.mem_cons_self) rfl
      · intro b o eb
        rw [upd_ne (ne_of_none eb nD)]
        exact s5 _ _ (s2 _ _ eb)
    · refine ⟨ys, s4 _ _ hD, ?_, s2.trans s4⟩
      rw [tk1]
      have e1 : [c].filterMap φ = [] := by simp [e]
      rw [e1, List.append_nil]
      exact hA.mono fun _ _ z => ⟨z.1, my _ _ _ _ (Kt.same s4) z.2⟩
  · rintro H2 ⟨ys, hD, hA, s2⟩
    rw [List.take_of_length_le (by omega)] at hA
    exact hd H2 ys hD hA s2
end
/-! ### measures and turns of a card -/
def meP : Ac → Option (Str × (Int × Int))
  | .me w lo hi => some (w, lo, hi)
  | _ => none
def tuP : Ac → Option (Str × Int)
  | .tu w k => some (w, k)
  | _ => none
def endsOf (as : List Ac) (w : Str) : Option (Int × Int) := ((as.filterMap meP).find? fun b => decide (b.1 = w)).map (·.2)
def optOf (as : List Ac) (w : Str) : Option Int := ((as.filterMap tuP).find? fun b => decide (b.1 = w)).map (·.2)
theorem pick_steps {β : Type} (φ : Ac → Option β) (h : ∀ a, a.isRu = true → φ a = none) : ∀ as : List Ac, (stepsOf as).filterMap φ = as.filterMap φ
  | [] => rfl
  | a :: r => by
    have ih := pick_steps φ h r
    unfold stepsOf at ih ⊢
    rw [List.filterMap_cons]
    cases e : a.isRu with
    | true =>
      have e1 : noRu a = none := by unfold noRu; rw [e]; rfl
      rw [e1, List.filterMap_cons, h a e]
      exact ih
    | false =>
      have e1 : noRu a = some a := by unfold noRu; rw [e]; rfl
      rw [e1]
      show (a :: List.filterMap noRu r).filterMap φ = _
      rw [List.filterMap_cons, List.filterMap_cons, ih]
theorem pick_nd {β : Type} (φ : Ac → Option (Str × β)) (h : ∀ a b, φ a = some b → b.1 = a.nm) : ∀ as : List Ac, (as.map Ac.nm).Nodup → ((as.filterMap φ).map (·.1)).Nodup := by
  have key : ∀ as : List Ac, ∀ w ∈ (as.filterMap φ).map (·.1), w ∈ as.map Ac.nm := fun as w hw => by
    obtain ⟨b, hb, rfl⟩ := List.mem_map.mp hw
    obtain ⟨a, ha, e⟩ := List.mem_filterMap.mp hb
    exact List.mem_map.mpr ⟨a, ha, (h a b e).symm⟩
  intro as
  induction as with
  | nil => exact fun _ => List.nodup_nil
  | cons a r ih =>
    intro hn
    rw [List.map_cons, List.nodup_cons] at hn
    rw [List.filterMap_cons]
    cases e : φ a with
    | none => exact ih hn.2
    | some b =>
      show ((b :: r.filterMap φ).map (·.1)).Nodup
      rw [List.map_cons, List.nodup_cons]
      refine ⟨fun hm => hn.1 ?_, ih hn.2⟩
      rw [← h a b e]
      exact key r _ hm
theorem lab_me {a : Ac} (e : decide (V.str a.lab = V.str (Str.ofString "measure")) = true) : ∃ w lo hi, a = .me w lo hi := by
  have e1 : a.lab = Str.ofString "measure" := V.str.inj (of_decide_eq_true e)
  cases a with
  | me w lo hi => exact ⟨w, lo, hi, rfl⟩
  | tu w k => exact absurd e1 (by show ¬ Str.ofString "turn" = Str.ofString "measure"; decide)
  | pa w => exact absurd e1 (by show ¬ Str.ofString "part" = Str.ofString "measure"; decide)
  | ru u l n ts ps => exact absurd e1 (by show ¬ Str.ofString "rule" = Str.ofString "measure"; decide)
theorem not_me {a : Ac} (e : ¬ decide (V.str a.lab = V.str (Str.ofString "measure")) = true) : meP a = none := by
  cases a with
  | me w lo hi => exact absurd (decide_eq_true rfl) e
  | _ => rfl
theorem lab_tu {a : Ac} (e : decide (V.str a.lab = V.str (Str.ofString "turn")) = true) : ∃ w k, a = .tu w k := by
  have e1 : a.lab = Str.ofString "turn" := V.str.inj (of_decide_eq_true e)
  cases a with
  | me w lo hi => exact absurd e1 (by show ¬ Str.ofString "measure" = Str.ofString "turn"; decide)
  | tu w k => exact ⟨w, k, rfl⟩
  | pa w => exact absurd e1 (by show ¬ Str.ofString "part" = Str.ofString "turn"; decide)
  | ru u l n ts ps => exact absurd e1 (by show ¬ Str.ofString "rule" = Str.ofString "turn"; decide)
theorem not_tu {a : Ac} (e : ¬ decide (V.str a.lab = V.str (Str.ofString "turn")) = true) : tuP a = none := by
  cases a with
  | tu w k => exact absurd (decide_eq_true rfl) e
  | _ => rfl
theorem meP_ru (a : Ac) (h : a.isRu = true) : meP a = none := by
  cases a with
  | ru u l n ts ps => rfl
  | _ => cases h
theorem tuP_ru (a : Ac) (h : a.isRu = true) : tuP a = none := by
  cases a with
  | ru u l n ts ps => rfl
  | _ => cases h
theorem meP_nm (a : Ac) (b : Str × (Int × Int)) (h : meP a = some b) : b.1 = a.nm := by
  cases a with
  | me w lo hi => cases h; rfl
  | _ => cases h
theorem tuP_nm (a : Ac) (b : Str × Int) (h : tuP a = some b) : b.1 = a.nm := by
  cases a with
  | tu w k => cases h; rfl
  | _ => cases h
def EndR (H : Hp) (v : V) (e : Int × Int) : Prop := ∃ q, v = .ref q ∧ H q = some (.tup [.int e.1, .int e.2])
/-- what is wrong with the measures of a form -/
def measBad (as : List Ac) (x : Tm) : Option Er := match endsOf as x.nm with
  | none => some (.nam 2 x.nm)
  | some e => if e = (x.lo, x.hi) then none else some (.nam 3 x.nm)
def measDue (as : List Ac) (ts : List Tm) : Option Er := ts.findSome? (measBad as)
theorem some_take {γ δ : Type} {p : γ → Option δ} : ∀ {l : List γ} {i : Nat} {x : γ} {y : δ}, l[i]? = some x → (l.take i).findSome? p = none → p x = some y → l.findSome? p = some y
  | [], i, x, y, h, _, _ => by simp at h
  | z :: r, 0, x, y, h, _, hp => by
    obtain rfl : z = x := Option.some.inj h
    rw [List.findSome?_cons, hp]
  | z :: r, i + 1, x, y, h, hn, hp => by
    rw [List.take_succ_cons, List.findSome?_cons] at hn
    cases e : p z with
    | some q =>
      rw [e] at hn
      cases hn
    | none =>
      rw [e] at hn
      rw [List.findSome?_cons, e]
      exact some_take (by simpa using h) hn hp
theorem some_snoc {γ δ : Type} {p : γ → Option δ} {l : List γ} {i : Nat} {x : γ} (h : l[i]? = some x) (hn : (l.take i).findSome? p = none) (hp : p x = none) : (l.take (i + 1)).findSome? p = none := by
  rw [List.take_add_one, h, Option.toList_some, List.findSome?_append, hn]
  simp [hp]
/-! ### are the measures known -/
abbrev sCme : Stmt := top 33
theorem scCme : FnScope ["card", "form", "ends", "step", "name", "times", "low", "high"] ["card", "form"] (defScope sCme) := ⟨rfl, rfl, rfl, by decide +kernel, rfl, by decide +kernel, by decide +kernel⟩
def spCme (C D : Addr) (xc : Nat → Addr) : Sp := fun vs H Q E => ∃ (p L f : Addr) (as : List Ac) (n : Int) (ts : List Tm), vs = [.ref p, .ref f] ∧ CardP D H p L ∧ ActsR C H L as ∧ (namesOf as).Nodup ∧ FormAt C H f n ts ∧ ts.length ≤ 900 ∧ (∀ e, measDue as ts = some e → Thr E xc H e) ∧ (measDue as ts = none → ∀ H', Same H H' → Q .non H')
theorem ok_cme {C D : Addr} (DF : Df K mg "_check_measures" sCme ["card", "form"]) (XS : Xs K mg) (T : Crd K mg D) (PS : Pk P w K mg base 1 D "steps" (spSteps C D)) (TF : Frm K mg C) : FnOk P w K mg base (L2N.CX P w) 3 DF.f DF.fd ["card", "form"] (spCme C D XS.c) := by
  have F2 : FnOk P w K mg base CX0 1 XS.x2.f XS.x2.fd ["self", "name"] (spX1 K "name") := okX_UnknownName XS.x2.fn
  have F3 : FnOk P w K mg base CX0 1 XS.x3.f XS.x3.fd ["self", "name"] (spX1 K "name") := okX_UnlikeEnds XS.x3.fn
  refine okN DF.fn scCme (fun vs H Q E h => ?_) (fun cdv A outer s H vs Q E hr h => ?_)
  · obtain ⟨p, L, f, as, n, ts, rfl, _⟩ := h
    rfl
  · obtain ⟨p, L, f, as, n, ts, rfl, hp, hA, hnd, hf, hsz, kx, k⟩ := h
    have hu := hu_of hr
    have hr2 : Room (1 + 1) _ := hr.mono (by decide)
    refine ⟨_, (pss_cons (ps_setDc (i := 2) (own := [("step", 3)]) (g := gName 3) (tt := _) rfl scCme.nd rfl rfl (swD_true rfl rfl rfl (by decide +kernel)) (pi_list (pe_prop (pv 0) T.cl PS.pr PS.G (hr.mono (by decide)) PS.bd .nil pass0 rfl)) (blkOk_by (N := ["card", "form", "ends", "step", "name", "times", "low", "high"]) (sc := defScope sCme) (by decide +kernel)) (fun _ _ _ _ _ => pg_name (i := 3) scCme.nd rfl (Or.inl rfl)) (fun _ _ _ _ _ => pts_one (pt_cmpR op_eq (pe_ix (show IxR _ (rIxT K) from ix_tup) (pv 3) pe_int (fun _ _ => rfl)) pe_str (nomark _))) (fun _ _ _ _ _ => (pe_ix (show IxR _ (rIxT K) from ix_tup) (pv 3) pe_int (fun _ _ => rfl))) (fun _ _ _ _ _ => (pe_slice (show SlR _ (rSlT K) from sl_tup) (pv 3) (po_some pe_int) po_none))) (pss_one (ps_for (passes_of rfl) rfl (pi_tup (pe_fld (pv 1) rfl)) (pg_tup rfl (pgs_cons (pg_name (i := 4) scCme.nd rfl (Or.inl rfl)) (pgs_cons (pg_name (i := 5) scCme.nd rfl (Or.inl rfl)) (pgs_cons (pg_name (i := 6) scCme.nd rfl (Or.inl rfl)) (pgs_cons (pg_name (i := 7) scCme.nd rfl (Or.inl rfl)) pgs_nil)))))
      (pss_cons (ps_if (pt_cmp (pc_dnotin hu (pv 4) (pv 2)))
      (pss_one (L2N.ps_raise rfl (L2N.takes_of rfl rfl rfl rfl) (pmk_oexN (CX := CX0) XS.x2.ox XS.x2.iC XS.x2.tI F2 hr2 XS.x2.bd .nil (fun _ _ _ _ _ _ _ h => h.elim) (by rfl) XS.x2.gC (pa_cons (pv 4) pa_nil))))
      pss_nil)
      (pss_one (ps_if (pt_cmpR (op_neD hr.units) (pe_dget hu (pv 2) (pv 4) (fun _ _ => rfl)) (pe_tup (pa_cons (pv 6) (pa_cons (pv 7) pa_nil))) (nomark _))
      (pss_one (L2N.ps_raise rfl (L2N.takes_of rfl rfl rfl rfl) (pmk_oexN (CX := CX0) XS.x3.ox XS.x3.iC XS.x3.tI F3 hr2 XS.x3.bd .nil (fun _ _ _ _ _ _ _ h => h.elim) (by rfl) XS.x3.gC (pa_cons (pv 4) pa_nil))))
      pss_nil)))))), ?_⟩
    obtain ⟨dx, hp'⟩ := id hp
    refine ⟨_, rfl, p, dx, _, rfl, hp', p, L, as, rfl, hp, hA, fun B ys H1 nB hB hR s1 => ⟨B, rfl, ⟨_, sql_of hB⟩, fun E1 nE => ?_⟩⟩
    have hsz2 := hA.sz
    have hsl := step_len as
    have hl := hR.len
    have hnd2 : (((stepsOf as).filterMap meP).map (·.1)).Nodup := pick_nd meP meP_nm _ hnd
    refine dc_pick walk_list (stepsOf as) meP EndR (fun _ _ _ _ q ⟨t, e, z⟩ => ⟨t, e, q.tup _ _ z⟩) nE (fun H2 s2 => sql_of (s2 _ _ hB)) hl (by omega) hnd2 (fun i x c H2 Yes No hx hc s2 hY hN => ?_) (fun H2 kvs hE hZ s2 => ?_)
    · obtain ⟨c', hc', hxc⟩ := hR.at_ hx
      obtain rfl : c' = c := Option.some.inj (hc'.symm.trans hc)
      have hx2 := hxc.kt (.same s2)
      obtain ⟨t, ws, rfl, ht, hn⟩ := hx2.lab
      refine ⟨rfl, _, rfl, t, _, 0, .str c'.lab, rfl, rfl, sql_ofT ht, at0, rfl, _, rfl, ite2 (fun e => ?_) (fun e => ?_)⟩
      · obtain ⟨w', lo, hi, rfl⟩ := lab_me e
        obtain ⟨t', xs', e', h1, rfl⟩ := hx2
        cases e'
        refine ⟨_, rfl, t, _, 1, .str w', rfl, rfl, sql_ofT h1, at1, ?_⟩
        refine ⟨_, rfl, 2, rfl, t, _, rfl, sql_ofT h1, (show ¬ (HT.sIx 4 0 (some 2) = 0 ∧ HT.sIx 4 4 none = 4) by decide), fun z nz => ?_⟩
        exact hY w' _ _ (lo, hi) rfl (same_upd nz) ⟨z, rfl, upd_same⟩
      · exact hN _ (not_me e) (.refl _)
    · rw [pick_steps meP meP_ru] at hZ
      have s12 := s1.trans s2
      obtain ⟨df, t, us, g1, g2, g3⟩ := hf.keep s12
      refine ⟨_, rfl, f, C, df, _, .ref t, rfl, g1, TF.cl, TF.nT, ff_t n t, t, rfl, ⟨us, sql_ofT g2⟩, ?_⟩
      have hgl := g3.len
      refine for_tup (K := K) (a := t) (xs := us) (fun i σ H3 => ∃ x3 x4 x5 x6 x7, σ = [some (.ref p), some (.ref f), some (.ref E1), x3, x4, x5, x6, x7] ∧ Same H2 H3 ∧ (ts.take i).findSome? (measBad as) = none) ⟨none, none, none, none, none, rfl, fun _ _ e => e, rfl⟩ (fun i σ H3 _ ⟨_, _, _, _, _, _, z, _⟩ => sql_ofT (z _ _ g2)) ?_ ?_
      · rintro i y σ H3 hi ⟨x3, x4, x5, x6, x7, rfl, sm3, hff⟩
        obtain ⟨u, q, hu', rfl, hq⟩ := g3.at_ hi
        refine ⟨q, _, rfl, sql_ofT (sm3 _ _ hq), rfl, _, _, rfl, _, _, rfl, _, _, rfl, _, _, rfl, rfl, ?_⟩
        have hE3 := sm3 _ _ hE
        obtain ⟨e1, e2⟩ | ⟨b, vv, e1, e2, qq, rfl, e3⟩ := kv_get hZ u.nm
        · have hb : measBad as u = some (.nam 2 u.nm) := by unfold measBad endsOf; rw [e1]; rfl
          refine ⟨_, rfl, _, rfl, E1, none, rfl, by rw [← e2]; exact DGet.k (k := Sum.inr u.nm) hE3, true, rfl, ?_⟩
          refine iteT' rfl ?_
          exact ⟨_, rfl, read1 XS.x2.ox (XS.x2.no "name" List.mem_cons_self) ((kx _ (some_take hu' hff hb)).same (s12.trans sm3))⟩
        · refine ⟨_, rfl, _, rfl, E1, some (.ref qq), rfl, by rw [← e2]; exact DGet.k (k := Sum.inr u.nm) hE3, false, rfl, ?_⟩
          refine iteF' rfl ?_
          refine ⟨_, rfl, _, rfl, E1, .ref qq, rfl, by rw [← e2]; exact DGet.k (k := Sum.inr u.nm) hE3, _, rfl, _, rfl, (by show 2 ≤ sizeLine; decide), fun z nz => ?_⟩
          have sz := same_upd (o := .tup [V.int u.lo, V.int u.hi]) nz
          refine ⟨enD b.2.1 b.2.2, enD u.lo u.hi, dp_en (sz _ _ (sm3 _ _ e3)), dp_en upd_same, sh_en _ _, sh_en _ _, _, rfl, ?_⟩
          rw [eqv_en]
          have he : endsOf as u.nm = some b.2 := by unfold endsOf; rw [e1]; rfl
          refine ite2 (fun e => ?_) (fun e => ?_)
          · have hb : measBad as u = some (.nam 3 u.nm) := by
              unfold measBad
              rw [he]
              have : ¬ (b.2 = (u.lo, u.hi)) := fun z => by rw [z] at e; simp at e
              exact if_neg this
            exact ⟨_, rfl, read1 XS.x3.ox (XS.x3.no "name" List.mem_cons_self) ((kx _ (some_take hu' hff hb)).same (s12.trans (sm3.trans sz)))⟩
          · have hb : measBad as u = none := by
              unfold measBad
              rw [he]
              have : b.2 = (u.lo, u.hi) := by simpa [Prod.ext_iff] using e
              exact if_pos this
            exact ⟨_, _, _, _, _, rfl, sm3.trans sz, some_snoc hu' hff hb⟩
      · rintro σ H3 ⟨x3, x4, x5, x6, x7, rfl, sm3, hff⟩
        rw [List.take_of_length_le (by omega)] at hff
        exact k hff H3 (s12.trans sm3)
end
end DO

namespace DO
open PySem PySem.Spec PyProof.Rows L2
section
variable {P : Program} {w : World} {K : PySem.W.Frag} {mg : Str → Option Value} {base : Heap}
/-! ### a walked thing that is a list or a tuple -/
theorem pi_lt {X : Cx} {tg l : Expr} {tl : TE} (hl : PE X l tl) : PI X tg l (fun σ H R => iList X.K tl σ H R ∨ iTup X.K tl σ H R) := ⟨fun pins s σ H R I h => h.elim ((pi_list hl).run pins s σ H R I) ((pi_tup hl).run pins s σ H R I)⟩
/-! ### pairs in order -/
abbrev sSwh : Stmt := top 30
def IntR (_ : Hp) (v : V) (k : Int) : Prop := v = .int k
def getP (ps : List (Str × Int)) (w : Str) : Option (Str × Int) := ps.find? fun b => decide (b.1 = w)
theorem any_fst {β : Type} (l : List (Str × β)) (w : Str) : (l.any fun b => decide (b.1 = w)) = decide (w ∈ l.map (·.1)) := by
  induction l with
  | nil => rfl
  | cons a r ih =>
    rw [List.any_cons, ih, List.map_cons]
    by_cases e : a.1 = w
    · rw [decide_eq_true e, decide_eq_true (show w ∈ a.1 :: r.map (·.1) from e ▸ List.mem_cons_self)]
      rfl
    · rw [decide_eq_false e, Bool.false_or]
      exact decide_eq_decide.mpr ⟨fun z => List.mem_cons_of_mem _ z, fun z => (List.mem_cons.mp z).resolve_left fun y => e y.symm⟩
def srtP (ps : List (Str × Int)) : List (Str × Int) := (sortS (ps.map (·.1))).filterMap (getP ps)
theorem kv_names {Rv : Hp → V → Int → Prop} {H : Hp} {kvs : List (Key × V)} {ps : List (Str × Int)} (h : All2 (KvR Rv H) kvs ps) : kvs.map (fun kv => kV kv.1) = (ps.map (·.1)).map V.str := by
  induction h with
  | nil => rfl
  | cons a _ ih =>
    rw [List.map_cons, List.map_cons, List.map_cons, ih, a.1]
    rfl
theorem scSwh : FnScope ["options", "turns", "key", "turn"] ["options"] (defScope sSwh) := ⟨rfl, rfl, rfl, by decide +kernel, rfl, by decide +kernel, by decide +kernel⟩
def spSwh : Sp := fun vs H Q _ => ∃ (d : Addr) (kvs : List (Key × V)) (ps : List (Str × Int)), vs = [.ref d] ∧ H d = some (.dK kvs) ∧ All2 (KvR IntR H) kvs ps ∧ ps.length ≤ 900 ∧ ∀ t us H', H' t = some (.tup us) → PAll H' us (srtP ps) → Same H H' → Q (.ref t) H'
theorem ok_swh (DF : Df K mg "sorted_when" sSwh ["options"]) (mso : mg "sorted" = none) (mst : mg "str" = none) (mtu : mg "tuple" = none) : FnOk P w K mg base CX0 1 DF.f DF.fd ["options"] spSwh := by
  refine DF.fn.ok scSwh (fun vs H Q E h => ?_) (fun cdv A outer s0 H vs Q E hr h => ?_)
  · obtain ⟨d, kvs, ps, rfl, _⟩ := h
    rfl
  · obtain ⟨d, kvs, ps, rfl, hd, hK, hz, k⟩ := h
    have hu := hu_of hr
    have hu2 : (A.deeper (envOfC "sorted_when" (defScope sSwh) s0.heap.objs.size DF.f cdv)).units + 2 < cLine := Nat.lt_of_le_of_lt (Nat.add_le_add_left (by decide : 2 ≤ 64) _) hr.units
    refine ⟨_, (pss_cons (ps_set (i := 1) scSwh.nd rfl (.inl rfl) (pe_callB (cr_sortedT hu2) (by rfl) mso (by decide +kernel) (pa_cons (pe_lock (pe_lc (own := [("key", 2)]) (g := gName 2) (tt := tYes) rfl scSwh.nd (pi_keys (pv 0)) (blkOk_by (N := ["options", "turns", "key", "turn"]) (sc := defScope sSwh) (by decide +kernel)) (fun _ _ _ _ _ => pg_name (i := 2) scSwh.nd rfl (Or.inl rfl)) (fun _ _ _ _ _ => pts_nil) (fun _ _ _ _ _ => (pe_callTy SkE.call_str_str (by rfl) mst (by decide +kernel) (pa_cons (pv 2) pa_nil))))) pa_nil)))
      (pss_one (ps_ret (pe_callTy call_tuple_of (by rfl) mtu (by decide +kernel) (pa_cons (pe_lc (own := [("turn", 3)]) (g := gName 3) (tt := tYes) rfl scSwh.nd (pi_list (pv 1)) (blkOk_by (N := ["options", "turns", "key", "turn"]) (sc := defScope sSwh) (by decide +kernel)) (fun _ _ _ _ _ => pg_name (i := 3) scSwh.nd rfl (Or.inl rfl)) (fun _ _ _ _ _ => pts_nil) (fun _ _ _ _ _ => (pe_tup (pa_cons (pv 3) (pa_cons (pe_dget hu (pv 0) (pv 3) (fun _ _ => rfl)) pa_nil))))) pa_nil))))), ?_⟩
    have hkn := kv_names hK
    have hkl := hK.len
    refine ⟨d, .dK kvs, hd, trivial, fun od => ?_⟩
    have hfz : (upd H d (.frz od (.dK kvs))) d = some (.frz od (.dK kvs)) := upd_same
    refine ⟨_, rfl, d, od, rfl, .inl ⟨kvs, hfz, fun B nB => ?_⟩⟩
    have hBd : d ≠ B := ne_of_none hfz nB
    have hKL : ((ps.map (·.1)).map V.str).length = kvs.length := by rw [← hkn, List.length_map]
    refine lc_it walk_keys (fun i H5 => H5 = upd (upd H d (.frz od (.dK kvs))) B (.lst (((ps.map (·.1)).map V.str).take i))) rfl (fun i H5 _ e => by rw [e, upd_ne hBd]; exact hfz) ?_ ?_
    · rintro i x H5 H6 hi rfl ⟨rfl, kk, vv, hk, rfl⟩
      have hc' : ((ps.map (·.1)).map V.str)[i]? = some (kV kk) := by
        rw [← hkn, List.getElem?_map, hk]
        rfl
      have hc2 := hc'
      rw [List.getElem?_map] at hc2
      obtain ⟨w0, _, ew⟩ := Option.map_eq_some_iff.mp hc2
      refine ⟨rfl, ?_⟩
      refine ⟨_, rfl, w0, by rw [ew], _, upd_same, ?_, ?_⟩
      · rw [List.length_take]
        exact small1000 (by have := hkl; omega)
      · rw [upd_upd, List.take_add_one, hc', ew]
        rfl
    rintro H5 rfl
    have nB' : H B = none := by
      rw [upd_ne hBd.symm] at nB
      exact nB
    rw [List.take_of_length_le (by omega)]
    refine ⟨by rw [upd_ne hBd]; exact hfz, ?_⟩
    have hB' : (upd (upd (upd H d (.frz od (.dK kvs))) B (.lst ((ps.map (·.1)).map V.str))) d (.dK kvs)) B = some (.lst ((ps.map (·.1)).map V.str)) := by rw [upd_ne hBd.symm, upd_same]
    have sm : Same H (upd (upd (upd H d (.frz od (.dK kvs))) B (.lst ((ps.map (·.1)).map V.str))) d (.dK kvs)) := fun b o e => by
      have h2 := ne_of_none e nB'
      by_cases h1 : b = d
      · subst h1
        rw [hd] at e
        rw [upd_same]
        exact e
      · rw [upd_ne h1, upd_ne h2, upd_ne h1]
        exact e
    generalize (upd (upd (upd H d (.frz od (.dK kvs))) B (.lst ((ps.map (·.1)).map V.str))) d (.dK kvs)) = H5 at hB' sm
    refine ⟨B, (ps.map (·.1)), rfl, sql_of hB', fun ol no => ?_⟩
    have s5 := same_upd (o := .lst (((ps.map (·.1)).mergeSort leT).map V.str)) no
    have hO : (upd H5 ol (.lst (((ps.map (·.1)).mergeSort leT).map V.str))) ol = some (.lst ((sortS (ps.map (·.1))).map V.str)) := upd_same
    have sm5 := sm.trans s5
    generalize (upd H5 ol (.lst (((ps.map (·.1)).mergeSort leT).map V.str))) = H6 at hO sm5
    have hd6 := sm5 _ _ hd
    have hol : (sortS (ps.map (·.1))).length = ps.length := by rw [(sortS_perm _).length_eq, List.length_map]
    refine ⟨_, rfl, ol, rfl, ⟨_, sql_of hO⟩, fun E1 nE => ?_⟩
    refine lc_pick walk_list (sortS (ps.map (·.1))) (getP ps) PairT (fun _ _ _ _ q z => z.kt q) nE (fun H2 s2 => sql_of (s2 _ _ hO)) (by rw [List.length_map]) (by rw [List.length_map]; omega) (fun i x c H2 Yes No hx hc s2 hY hN => ?_) (fun H2 zs hE hZ s2 => ?_)
    · rw [List.getElem?_map, hc] at hx
      obtain rfl := Option.some.inj hx
      have hcm : c ∈ ps.map (·.1) := (sortS_perm _).mem_iff.mp (List.mem_of_getElem? hc)
      have hd2 := s2 _ _ hd6
      obtain ⟨e1, e2⟩ | ⟨b, vv, e1, e2, e3⟩ := kv_get hK c
      · exfalso
        obtain ⟨b, hb, eb⟩ := List.mem_map.mp hcm
        have := List.find?_eq_none.mp e1 b hb
        exact this (decide_eq_true eb)
      · have e3' : vv = .int b.2 := e3
        subst e3'
        have eb : b.1 = c := of_decide_eq_true (List.find?_some (p := fun b : Str × Int => decide (b.1 = c)) e1)
        refine ⟨rfl, _, rfl, _, rfl, _, rfl, d, .int b.2, rfl, by rw [← e2]; exact DGet.k (k := Sum.inr c) hd2, (by show 2 ≤ sizeLine; decide), fun z nz => ?_⟩
        exact hY _ _ b e1 (same_upd nz) ⟨z, rfl, by rw [eb]; exact upd_same⟩
    · refine ⟨E1, zs, rfl, .inl ⟨sql_of hE, fun t nt => ?_⟩⟩
      have st := same_upd (o := .tup zs) nt
      exact k t zs _ upd_same (hZ.mono fun _ _ z => z.kt (.same st)) ((sm5.trans s2).trans st)
/-! ### the conditions of a rule -/
def whenBad (as : List Ac) (seen : List Str) (p : Str × Int) : Option Er := match optOf as p.1 with
  | none => some (.nam 2 p.1)
  | some c => if p.1 ∈ seen then some (.nam 5 p.1) else if 0 ≤ p.2 ∧ p.2 < c then none else some (.opt p.1 p.2)
def whenRun (as : List Ac) : List Str → List (Str × Int) → Option Er
  | _, [] => none
  | seen, p :: r => match whenBad as seen p with
    | some e => some e
    | none => whenRun as (seen ++ [p.1]) r
def whenDue (as : List Ac) (ps : List (Str × Int)) : Option Er := whenRun as [] ps
abbrev sCwh : Stmt := top 34
/-- the pairs that were passed, in a list or a tuple -/
def WhenAt (K : PySem.W.Frag) (H : Hp) (wv : Addr) (ps : List (Str × Int)) : Prop := ∃ us, (SqL K H wv us ∨ SqT K H wv us) ∧ PAll H us ps
theorem sql_kp {H H' : Hp} {a p : Addr} {o : HO} {xs : List V} (h : SqL K H a xs) (hp : H p = some o) (hl : ∀ ys, o ≠ .lst ys) (hf : ∀ q ys, o ≠ .frz q (.lst ys)) (k : ∀ b u, H b = some u → b ≠ p → H' b = some u) : SqL K H' a xs := by
  rcases h with (h | ⟨q, h⟩) | h
  · exact .inl (.inl (k _ _ h fun e => hl xs (by subst e; rw [hp] at h; exact Option.some.inj h)))
  · exact .inl (.inr ⟨q, k _ _ h fun e => hf q xs (by subst e; rw [hp] at h; exact Option.some.inj h)⟩)
  · exact .inr h
theorem sqt_kp {H H' : Hp} {a p : Addr} {o : HO} {xs : List V} (h : SqT K H a xs) (hp : H p = some o) (hl : ∀ ys, o ≠ .tup ys) (hf : ∀ q ys, o ≠ .frz q (.tup ys)) (k : ∀ b u, H b = some u → b ≠ p → H' b = some u) : SqT K H' a xs := by
  rcases h with (h | ⟨q, h⟩) | h
  · exact .inl (.inl (k _ _ h fun e => hl xs (by subst e; rw [hp] at h; exact Option.some.inj h)))
  · exact .inl (.inr ⟨q, k _ _ h fun e => hf q xs (by subst e; rw [hp] at h; exact Option.some.inj h)⟩)
  · exact .inr h
theorem sqt_same {H H' : Hp} {a : Addr} {xs : List V} (h : SqT K H a xs) (k : Same H H') : SqT K H' a xs := by
  rcases h with (h | ⟨q, h⟩) | h
  · exact .inl (.inl (k _ _ h))
  · exact .inl (.inr ⟨q, k _ _ h⟩)
  · exact .inr h
theorem WhenAt.same {H H' : Hp} {wv : Addr} {ps : List (Str × Int)} (h : WhenAt K H wv ps) (k : Same H H') : WhenAt K H' wv ps := by
  obtain ⟨us, h1, h2⟩ := h
  exact ⟨us, h1.imp (Same.seq k) (fun z => sqt_same z k), h2.kt (.same k)⟩
theorem scCwh : FnScope ["card", "when", "counts", "step", "options", "turn", "option"] ["card", "when"] (defScope sCwh) := ⟨rfl, rfl, rfl, by decide +kernel, rfl, by decide +kernel, by decide +kernel⟩
def spCwh (K : PySem.W.Frag) (C D : Addr) (xc : Nat → Addr) : Sp := fun vs H Q E => ∃ (p L wv : Addr) (as : List Ac) (ps : List (Str × Int)), vs = [.ref p, .ref wv] ∧ CardP D H p L ∧ ActsR C H L as ∧ (namesOf as).Nodup ∧ WhenAt K H wv ps ∧ ps.length ≤ 900 ∧ (∀ e, whenDue as ps = some e → Thr E xc H e) ∧ (whenDue as ps = none → ∀ t us H', H' t = some (.tup us) → PAll H' us (srtP ps) → Same H H' → Q (.ref t) H')
theorem ok_cwh {C D : Addr} (DF : Df K mg "_checked_when" sCwh ["card", "when"]) (XS : Xs K mg) (T : Crd K mg D) (PS : Pk P w K mg base 1 D "steps" (spSteps C D)) (SW : Fk P w K mg base 1 "sorted_when" sSwh ["options"] spSwh) : FnOk P w K mg base (L2N.CX P w) 3 DF.f DF.fd ["card", "when"] (spCwh K C D XS.c) := by
  have F2 : FnOk P w K mg base CX0 1 XS.x2.f XS.x2.fd ["self", "name"] (spX1 K "name") := okX_UnknownName XS.x2.fn
  have F5 : FnOk P w K mg base CX0 1 XS.x5.f XS.x5.fd ["self", "name"] (spX1 K "name") := okX_TurnTwice XS.x5.fn
  have F8 : FnOk P w K mg base CX0 1 XS.x8.f XS.x8.fd ["self", "name", "option"] (spX2 K "name" "option") := okX_BadOption XS.x8.fn
  refine okN DF.fn scCwh (fun vs H Q E h => ?_) (fun cdv A outer s H vs Q E hr h => ?_)
  · obtain ⟨p, L, wv, as, ps, rfl, _⟩ := h
    rfl
  · obtain ⟨p, L, wv, as, ps, rfl, hp, hA, hnd, hW, hsz, kx, k⟩ := h
    have hu := hu_of hr
    have hr2 : Room (1 + 1) _ := hr.mono (by decide)
    refine ⟨_, (pss_cons (ps_setDc (i := 2) (own := [("step", 3)]) (g := gName 3) (tt := _) rfl scCwh.nd rfl rfl (swD_true rfl rfl rfl (by decide +kernel)) (pi_list (pe_prop (pv 0) T.cl PS.pr PS.G (hr.mono (by decide)) PS.bd .nil pass0 rfl)) (blkOk_by (N := ["card", "when", "counts", "step", "options", "turn", "option"]) (sc := defScope sCwh) (by decide +kernel)) (fun _ _ _ _ _ => pg_name (i := 3) scCwh.nd rfl (Or.inl rfl)) (fun _ _ _ _ _ => pts_one (pt_cmpR op_eq (pe_ix (show IxR _ (rIxT K) from ix_tup) (pv 3) pe_int (fun _ _ => rfl)) pe_str (nomark _))) (fun _ _ _ _ _ => (pe_ix (show IxR _ (rIxT K) from ix_tup) (pv 3) pe_int (fun _ _ => rfl))) (fun _ _ _ _ _ => (pe_ix (show IxR _ (rIxT K) from ix_tup) (pv 3) pe_int (fun _ _ => rfl)))) (pss_cons (ps_set (i := 4) scCwh.nd rfl (.inl rfl) pe_dnewK) (pss_cons (ps_for (passes_of rfl) rfl (pi_lt (pv 1)) (pg_tup rfl (pgs_cons (pg_name (i := 5) scCwh.nd rfl (Or.inl rfl)) (pgs_cons (pg_name (i := 6) scCwh.nd rfl (Or.inl rfl)) pgs_nil)))
      (pss_cons (ps_if (pt_cmp (pc_dnotin hu (pv 5) (pv 2)))
      (pss_one (L2N.ps_raise rfl (L2N.takes_of rfl rfl rfl rfl) (pmk_oexN (CX := CX0) XS.x2.ox XS.x2.iC XS.x2.tI F2 hr2 XS.x2.bd .nil (fun _ _ _ _ _ _ _ h => h.elim) (by rfl) XS.x2.gC (pa_cons (pv 5) pa_nil))))
      pss_nil)
      (pss_cons (ps_if (pt_cmp (pc_din hu (pv 5) (pv 4)))
      (pss_one (L2N.ps_raise rfl (L2N.takes_of rfl rfl rfl rfl) (pmk_oexN (CX := CX0) XS.x5.ox XS.x5.iC XS.x5.tI F5 hr2 XS.x5.bd .nil (fun _ _ _ _ _ _ _ h => h.elim) (by rfl) XS.x5.gC (pa_cons (pv 5) pa_nil))))
      pss_nil)
      (pss_cons (ps_if (pt_not (pt_chain op_le op_lt pe_int (pv 6) (pe_dget hu (pv 2) (pv 5) (fun _ _ => rfl))))
      (pss_one (L2N.ps_raise rfl (L2N.takes_of rfl rfl rfl rfl) (pmk_oexN (CX := CX0) XS.x8.ox XS.x8.iC XS.x8.tI F8 hr2 XS.x8.bd .nil (fun _ _ _ _ _ _ _ h => h.elim) (by rfl) XS.x8.gC (pa_cons (pv 5) (pa_cons (pv 6) pa_nil)))))
      pss_nil)
      (pss_one (ps_dput hu (pv 4) (pv 5) (pv 6) rfl)))))) (pss_one (ps_ret (pe_call SW.G (hr.mono (by decide)) (by rfl) SW.D.mgf SW.D.fn.kp SW.D.bd .nil pass0 (pa_cons (pv 4) pa_nil))))))), ?_⟩
    obtain ⟨dx, hp'⟩ := id hp
    refine ⟨_, rfl, p, dx, _, rfl, hp', p, L, as, rfl, hp, hA, fun B ys H1 nB hB hR s1 => ⟨B, rfl, ⟨_, sql_of hB⟩, fun E1 nE => ?_⟩⟩
    have hsz2 := hA.sz
    have hsl := step_len as
    have hl := hR.len
    have hnd2 : (((stepsOf as).filterMap tuP).map (·.1)).Nodup := pick_nd tuP tuP_nm _ hnd
    refine dc_pick walk_list (stepsOf as) tuP IntR (fun _ _ _ _ _ z => z) nE (fun H2 s2 => sql_of (s2 _ _ hB)) hl (by omega) hnd2 (fun i x c H2 Yes No hx hc s2 hY hN => ?_) (fun H2 kvs hE hZ s2 => ?_)
    · obtain ⟨c', hc', hxc⟩ := hR.at_ hx
      obtain rfl : c' = c := Option.some.inj (hc'.symm.trans hc)
      have hx2 := hxc.kt (.same s2)
      obtain ⟨t, ws, rfl, ht, hn⟩ := hx2.lab
      refine ⟨rfl, _, rfl, t, _, 0, .str c'.lab, rfl, rfl, sql_ofT ht, at0, rfl, _, rfl, ite2 (fun e => ?_) (fun e => ?_)⟩
      · obtain ⟨w', n', rfl⟩ := lab_tu e
        obtain ⟨t', xs', e', h1, rfl⟩ := hx2
        cases e'
        exact ⟨_, rfl, t, _, 1, .str w', rfl, rfl, sql_ofT h1, at1, _, rfl, t, _, 2, .int n', rfl, rfl, sql_ofT h1, rfl, hY w' _ _ n' rfl (.refl _) rfl⟩
      · exact hN _ (not_tu e) (.refl _)
    · rw [pick_steps tuP tuP_ru] at hZ
      have s12 := s1.trans s2
      intro O nO
      have sO := same_upd (o := .dK []) nO
      have hE' := sO _ _ hE
      have hOE : O ≠ E1 := (ne_of_none hE nO).symm
      have s13 := s12.trans sO
      have hO' : (upd H2 O (.dK [])) O = some (.dK []) := upd_same
      generalize (upd H2 O (.dK [])) = H3 at sO hE' s13 hO'
      obtain ⟨us, hus, hP⟩ := hW.same s13
      have hPl := hP.len
      rcases hus with hus | hus
      · refine .inl ⟨_, rfl, wv, rfl, ⟨us, hus⟩, for_it (walk_list (K := K) (a := wv) (xs := us)) (fun i σ H4 => ∃ x3 x5 x6 lvs, σ = [some (.ref p), some (.ref wv), some (.ref E1), x3, some (.ref O), x5, x6] ∧ H4 O = some (.dK lvs) ∧ All2 (KvR IntR H4) lvs (ps.take i) ∧ (∀ b o, H3 b = some o → b ≠ O → H4 b = some o) ∧ whenDue as ps = whenRun as ((ps.take i).map (·.1)) (ps.drop i) ∧ ((ps.take i).map (·.1)).Nodup)
          ⟨none, none, none, [], rfl, hO', .nil, fun _ _ e _ => e, rfl, List.nodup_nil⟩ (fun i σ H4 _ ⟨_, _, _, _, _, _, _, z, _⟩ => sql_kp hus hO' (fun _ v => nomatch v) (fun _ _ v => nomatch v) z) ?_ ?_⟩
        · rintro i y σ H4 H4' hi ⟨x3, x5, x6, lvs, rfl, hO4, hL4, kp4, hrun, hnd4⟩ ⟨rfl, hy⟩
          obtain ⟨pr, hpr, q, rfl, hq⟩ := hP.at_ hy
          have hq4 := kp4 _ _ hq (ne_of hq hO' fun v => nomatch v)
          have hE4 := kp4 _ _ hE' hOE.symm
          have s14 : Same H H4' := fun b o eb => kp4 _ _ (s13 _ _ eb) (ne_of_none (s12 _ _ eb) nO)
          have hdr : ps.drop i = pr :: ps.drop (i + 1) := by
            rw [List.drop_eq_getElem_cons (List.getElem?_eq_some_iff.mp hpr).1, (List.getElem?_eq_some_iff.mp hpr).2]
          have htk : ps.take (i + 1) = ps.take i ++ [pr] := by rw [List.take_add_one, hpr, Option.toList_some]
          have hrun' : ∀ e, whenBad as ((ps.take i).map (·.1)) pr = some e → whenDue as ps = some e := fun e he => by
            rw [hrun, hdr]
            show (match whenBad as ((ps.take i).map (·.1)) pr with | some e => some e | none => _) = _
            rw [he]
          refine ⟨q, _, rfl, sql_ofT hq4, rfl, _, _, rfl, _, _, rfl, rfl, ?_⟩
          obtain ⟨e1, e2⟩ | ⟨b, vv, e1, e2, e3⟩ := kv_get hZ pr.1
          · have ho : optOf as pr.1 = none := by unfold optOf; rw [e1]; rfl
            have hb : whenBad as ((ps.take i).map (·.1)) pr = some (.nam 2 pr.1) := by unfold whenBad; rw [ho]
            refine ⟨_, rfl, _, rfl, E1, none, rfl, by rw [← e2]; exact DGet.k (k := Sum.inr pr.1) hE4, true, rfl, ?_⟩
            refine iteT' rfl ?_
            exact ⟨_, rfl, read1 XS.x2.ox (XS.x2.no "name" List.mem_cons_self) ((kx _ (hrun' _ hb)).same s14)⟩
          · have e3' : vv = .int b.2 := e3
            subst e3'
            have ho : optOf as pr.1 = some b.2 := by unfold optOf; rw [e1]; rfl
            refine ⟨_, rfl, _, rfl, E1, some (.int b.2), rfl, by rw [← e2]; exact DGet.k (k := Sum.inr pr.1) hE4, false, rfl, ?_⟩
            refine iteF' rfl ?_
            have hmem : (valV lvs (Sum.inr pr.1 : Key)).isSome = decide (pr.1 ∈ (ps.take i).map (·.1)) := by
              rw [← valV_any, kv_keys hL4, any_fst]
            refine ⟨_, rfl, _, rfl, O, _, rfl, DGet.k (k := Sum.inr pr.1) hO4, _, rfl, ?_⟩
            rw [hmem]
            refine ite2 (fun e => ?_) (fun e => ?_)
            · have hb : whenBad as ((ps.take i).map (·.1)) pr = some (.nam 5 pr.1) := by unfold whenBad; rw [ho]; exact if_pos (of_decide_eq_true e)
              exact ⟨_, rfl, read1 XS.x5.ox (XS.x5.no "name" List.mem_cons_self) ((kx _ (hrun' _ hb)).same s14)⟩
            have hns : pr.1 ∉ (ps.take i).map (·.1) := fun z => e (decide_eq_true z)
            have bad : ¬ (0 ≤ pr.2 ∧ pr.2 < b.2) → whenBad as ((ps.take i).map (·.1)) pr = some (.opt pr.1 pr.2) := fun z => by
              unfold whenBad
              rw [ho]
              show (if pr.1 ∈ (ps.take i).map (·.1) then _ else _) = _
              rw [if_neg hns, if_neg z]
            refine ⟨_, rfl, _, _, rfl, rfl, _, rfl, ite2 (fun c1 => ?_) (fun c1 => ?_)⟩
            · refine ⟨_, rfl, _, rfl, E1, .int b.2, rfl, by rw [← e2]; exact DGet.k (k := Sum.inr pr.1) hE4, _, _, rfl, rfl, _, rfl, ite2 (fun c2 => ?_) (fun c2 => ?_)⟩
              · have hb := bad fun z => by
                  have : ¬ pr.2 < b.2 := by simpa using c2
                  exact this z.2
                exact ⟨_, rfl, _, rfl, read2 XS.x8.ox (XS.x8.no "name" List.mem_cons_self) (XS.x8.no "option" (List.mem_cons_of_mem _ List.mem_cons_self)) ((kx _ (hrun' _ hb)).same s14)⟩
              · have z1 : 0 ≤ pr.2 := of_decide_eq_true c1
                have z2 : pr.2 < b.2 := by simpa using c2
                have hb : whenBad as ((ps.take i).map (·.1)) pr = none := by
                  unfold whenBad
                  rw [ho]
                  show (if pr.1 ∈ (ps.take i).map (·.1) then _ else _) = _
                  rw [if_neg hns, if_pos ⟨z1, z2⟩]
                refine ⟨_, rfl, _, rfl, _, rfl, O, _, rfl, DPut.k (k := Sum.inr pr.1) hO4 (by have := hL4.len; rw [List.length_take] at this; exact small1000 (by omega)), ?_⟩
                have k5 : Kt H4' (upd H4' O (.dK (putK lvs (Sum.inr pr.1) (.int pr.2)))) := Kt.updK hO4
                refine ⟨_, _, _, _, rfl, upd_same, ?_, fun b' o eb nb => ?_, ?_, ?_⟩
                · rw [htk]
                  exact kv_put (b := pr) hL4 rfl hns
                · rw [upd_ne nb]
                  exact kp4 _ _ eb nb
                · rw [hrun, hdr, htk, List.map_append]
                  show (match whenBad as ((ps.take i).map (·.1)) pr with | some e => some e | none => _) = _
                  rw [hb]
                  rfl
                · rw [htk, List.map_append]
                  exact nd_snocS hnd4 hns
            · have hb := bad fun z => c1 (decide_eq_true z.1)
              refine ⟨false, rfl, ?_⟩
              exact ⟨_, rfl, _, rfl, read2 XS.x8.ox (XS.x8.no "name" List.mem_cons_self) (XS.x8.no "option" (List.mem_cons_of_mem _ List.mem_cons_self)) ((kx _ (hrun' _ hb)).same s14)⟩
        · rintro σ H4 ⟨x3, x5, x6, lvs, rfl, hO4, hL4, kp4, hrun, hnd4⟩
          have s14 : Same H H4 := fun b o eb => kp4 _ _ (s13 _ _ eb) (ne_of_none (s12 _ _ eb) nO)
          rw [List.take_of_length_le (by omega)] at hL4
          rw [List.drop_of_length_le (by omega)] at hrun
          exact ⟨_, rfl, O, lvs, ps, rfl, hO4, hL4, hsz, fun t us' H5 ht hus' s5 => k hrun t us' H5 ht hus' (s14.trans s5)⟩
      · refine .inr ⟨_, rfl, wv, rfl, ⟨us, hus⟩, for_it (walk_tup (K := K) (a := wv) (xs := us)) (fun i σ H4 => ∃ x3 x5 x6 lvs, σ = [some (.ref p), some (.ref wv), some (.ref E1), x3, some (.ref O), x5, x6] ∧ H4 O = some (.dK lvs) ∧ All2 (KvR IntR H4) lvs (ps.take i) ∧ (∀ b o, H3 b = some o → b ≠ O → H4 b = some o) ∧ whenDue as ps = whenRun as ((ps.take i).map (·.1)) (ps.drop i) ∧ ((ps.take i).map (·.1)).Nodup)
          ⟨none, none, none, [], rfl, hO', .nil, fun _ _ e _ => e, rfl, List.nodup_nil⟩ (fun i σ H4 _ ⟨_, _, _, _, _, _, _, z, _⟩ => sqt_kp hus hO' (fun _ v => nomatch v) (fun _ _ v => nomatch v) z) ?_ ?_⟩
        · rintro i y σ H4 H4' hi ⟨x3, x5, x6, lvs, rfl, hO4, hL4, kp4, hrun, hnd4⟩ ⟨rfl, hy⟩
          obtain ⟨pr, hpr, q, rfl, hq⟩ := hP.at_ hy
          have hq4 := kp4 _ _ hq (ne_of hq hO' fun v => nomatch v)
          have hE4 := kp4 _ _ hE' hOE.symm
          have s14 : Same H H4' := fun b o eb => kp4 _ _ (s13 _ _ eb) (ne_of_none (s12 _ _ eb) nO)
          have hdr : ps.drop i = pr :: ps.drop (i + 1) := by
            rw [List.drop_eq_getElem_cons (List.getElem?_eq_some_iff.mp hpr).1, (List.getElem?_eq_some_iff.mp hpr).2]
          have htk : ps.take (i + 1) = ps.take i ++ [pr] := by rw [List.take_add_one, hpr, Option.toList_some]
          have hrun' : ∀ e, whenBad as ((ps.take i).map (·.1)) pr = some e → whenDue as ps = some e := fun e he => by
            rw [hrun, hdr]
            show (match whenBad as ((ps.take i).map (·.1)) pr with | some e => some e | none => _) = _
            rw [he]
          refine ⟨q, _, rfl, sql_ofT hq4, rfl, _, _, rfl, _, _, rfl, rfl, ?_⟩
          obtain ⟨e1, e2⟩ | ⟨b, vv, e1, e2, e3⟩ := kv_get hZ pr.1
          · have ho : optOf as pr.1 = none := by unfold optOf; rw [e1]; rfl
            have hb : whenBad as ((ps.take i).map (·.1)) pr = some (.nam 2 pr.1) := by unfold whenBad; rw [ho]
            refine ⟨_, rfl, _, rfl, E1, none, rfl, by rw [← e2]; exact DGet.k (k := Sum.inr pr.1) hE4, true, rfl, ?_⟩
            refine iteT' rfl ?_
            exact ⟨_, rfl, read1 XS.x2.ox (XS.x2.no "name" List.mem_cons_self) ((kx _ (hrun' _ hb)).same s14)⟩
          · have e3' : vv = .int b.2 := e3
            subst e3'
            have ho : optOf as pr.1 = some b.2 := by unfold optOf; rw [e1]; rfl
            refine ⟨_, rfl, _, rfl, E1, some (.int b.2), rfl, by rw [← e2]; exact DGet.k (k := Sum.inr pr.1) hE4, false, rfl, ?_⟩
            refine iteF' rfl ?_
            have hmem : (valV lvs (Sum.inr pr.1 : Key)).isSome = decide (pr.1 ∈ (ps.take i).map (·.1)) := by
              rw [← valV_any, kv_keys hL4, any_fst]
            refine ⟨_, rfl, _, rfl, O, _, rfl, DGet.k (k := Sum.inr pr.1) hO4, _, rfl, ?_⟩
            rw [hmem]
            refine ite2 (fun e => ?_) (fun e => ?_)
            · have hb : whenBad as ((ps.take i).map (·.1)) pr = some (.nam 5 pr.1) := by unfold whenBad; rw [ho]; exact if_pos (of_decide_eq_true e)
              exact ⟨_, rfl, read1 XS.x5.ox (XS.x5.no "name" List.mem_cons_self) ((kx _ (hrun' _ hb)).same s14)⟩
            have hns : pr.1 ∉ (ps.take i).map (·.1) := fun z => e (decide_eq_true z)
            have bad : ¬ (0 ≤ pr.2 ∧ pr.2 < b.2) → whenBad as ((ps.take i).map (·.1)) pr = some (.opt pr.1 pr.2) := fun z => by
              unfold whenBad
              rw [ho]
              show (if pr.1 ∈ (ps.take i).map (·.1) then _ else _) = _
              rw [if_neg hns, if_neg z]
            refine ⟨_, rfl, _, _, rfl, rfl, _, rfl, ite2 (fun c1 => ?_) (fun c1 => ?_)⟩
            · refine ⟨_, rfl, _, rfl, E1, .int b.2, rfl, by rw [← e2]; exact DGet.k (k := Sum.inr pr.1) hE4, _, _, rfl, rfl, _, rfl, ite2 (fun c2 => ?_) (fun c2 => ?_)⟩
              · have hb := bad fun z => by
                  have : ¬ pr.2 < b.2 := by simpa using c2
                  exact this z.2
                exact ⟨_, rfl, _, rfl, read2 XS.x8.ox (XS.x8.no "name" List.mem_cons_self) (XS.x8.no "option" (List.mem_cons_of_mem _ List.mem_cons_self)) ((kx _ (hrun' _ hb)).same s14)⟩
              · have z1 : 0 ≤ pr.2 := of_decide_eq_true c1
                have z2 : pr.2 < b.2 := by simpa using c2
                have hb : whenBad as ((ps.take i).map (·.1)) pr = none := by
                  unfold whenBad
                  rw [ho]
                  show (if pr.1 ∈ (ps.take i).map (·.1) then _ else _) = _
                  rw [if_neg hns, if_pos ⟨z1, z2⟩]
                refine ⟨_, rfl, _, rfl, _, rfl, O, _, rfl, DPut.k (k := Sum.inr pr.1) hO4 (by have := hL4.len; rw [List.length_take] at this; exact small1000 (by omega)), ?_⟩
                have k5 : Kt H4' (upd H4' O (.dK (putK lvs (Sum.inr pr.1) (.int pr.2)))) := Kt.updK hO4
                refine ⟨_, _, _, _, rfl, upd_same, ?_, fun b' o eb nb => ?_, ?_, ?_⟩
                · rw [htk]
                  exact kv_put (b := pr) hL4 rfl hns
                · rw [upd_ne nb]
                  exact kp4 _ _ eb nb
                · rw [hrun, hdr, htk, List.map_append]
                  show (match whenBad as ((ps.take i).map (·.1)) pr with | some e => some e | none => _) = _
                  rw [hb]
                  rfl
                · rw [htk, List.map_append]
                  exact nd_snocS hnd4 hns
            · have hb := bad fun z => c1 (decide_eq_true z.1)
              refine ⟨false, rfl, ?_⟩
              exact ⟨_, rfl, _, rfl, read2 XS.x8.ox (XS.x8.no "name" List.mem_cons_self) (XS.x8.no "option" (List.mem_cons_of_mem _ List.mem_cons_self)) ((kx _ (hrun' _ hb)).same s14)⟩
        · rintro σ H4 ⟨x3, x5, x6, lvs, rfl, hO4, hL4, kp4, hrun, hnd4⟩
          have s14 : Same H H4 := fun b o eb => kp4 _ _ (s13 _ _ eb) (ne_of_none (s12 _ _ eb) nO)
          rw [List.take_of_length_le (by omega)] at hL4
          rw [List.drop_of_length_le (by omega)] at hrun
          exact ⟨_, rfl, O, lvs, ps, rfl, hO4, hL4, hsz, fun t us' H5 ht hus' s5 => k hrun t us' H5 ht hus' (s14.trans s5)⟩
end
end DO

namespace DO
open PySem PySem.Spec PyProof.Rows L2
section
variable {P : Program} {w : World} {K : PySem.W.Frag} {mg : Str → Option Value} {base : Heap}
/-! ### a method called with keywords, what it raises hanging on the slots -/
section
variable {X : Cx} {CX : CXT} {k n : Nat} {f C : Addr} {fd : FuncData} {ps ks : List Str} {sp : Sp} {E : L2.St → XK} {g : List Value → List Value → List Value} {gV : List V → List V → List V}
def tMethKS (C : Addr) (m : Str) (n nk : Nat) (sp : Sp) (gV : List V → List V → List V) (E : L2.St → XK) (ta : TE) (t tk : TA) : TE := fun σ H Q => ta σ H fun x H1 => ∃ a dx fs, x = .ref a ∧ H1 a = some (.ins C dx fs) ∧ fs.lookup m = none ∧
  t σ H1 fun vs H2 => tk σ H2 fun zs H3 => vs.length = n ∧ zs.length = nk ∧ sp (gV (.ref a :: vs) zs) H3 Q (E σ)
theorem pe_methKS {pl : Sem Bool} {m : Str} {e o : Expr} {es : List Expr} {kws : List Keyword} {ta : TE} {t tk : TA} {apos pos : Pos} (he : PE X o ta) (c : Cls X.K C) (hm : Meth X.K C m f) (F : FnOk X.prog X.w X.K X.mg X.base CX k f fd ps sp) (hr : Room k X.A) (kb : KBn X.K fd ps (n + 1) ks g gV)
    (hx : ∀ σ, PassesAt CX X σ (E σ)) (ha : PA X (e :: es) t) (hkw : PK X kws tk) (hall : (backToKw pos (keywordEach kws X.env)).all (·.1.isSome) = true := by rfl) (hks : (backToKw pos (keywordEach kws X.env)).filterMap (·.1) = ks := by rfl)
    (hst : starEach (e :: es) X.env = (false, eval e X.env) :: starEach es X.env := by rfl) (hpl : ((backTo pos (starEach (e :: es) X.env)).any (·.1) || (backToKw pos (keywordEach kws X.env)).any (·.1.isNone)) = false := by rfl)
    (ht : eval (.Call (.Attribute o m apos) (e :: es) kws pos) X.env = (do
      let ov ← eval o X.env
      standAt apos.atName
      let (f, first) ← holding [ov] (getMethod ov m pl)
      callWith pos f first (backTo pos (starEach (e :: es) X.env)) (backToKw pos (keywordEach kws X.env))) := by rfl) :
    PE X (.Call (.Attribute o m apos) (e :: es) kws pos) (tMethKS C m n ks.length sp gV E ta t tk) := by
  refine ⟨fun pins s σ H Q I h => ?_⟩
  refine PySem.W.methodCall_KW (pl := pl) (wpAny_mono (he.run pins s σ H _ I h) (fun u s1 z => ?_) fun _ _ z => z) ht
  obtain ⟨x, H1, I1, rx, a, dx, fs, ex, ea, l, q⟩ := z
  subst ex
  obtain rfl : u = Value.ref a := rx
  refine getmeth_ok I1 ea c hm l ?_
  refine PySem.W.callWith_KW (first := [.ref a]) (h₀ := X.base) I.ok.mod.kin hm.kp hall ?_ hpl hst
  refine thn (ha.run pos pins s1 σ H1 _ I1 q) fun us s2 z => ?_
  obtain ⟨vs, H2, I2, r, q2⟩ := z
  refine thn (hkw.run pos pins s2 σ H2 _ I2 q2) fun ws s3 z2 => ?_
  obtain ⟨zs, H3, I3, rz, l1, l2, q3⟩ := z2
  rw [hks]
  have r' : Vals (.ref a :: vs) (Value.ref a :: us) := .cons rfl r
  have bnd := kb.to s3 (Value.ref a :: us) ws I3.kIn (by rw [List.length_cons, ← r.length, l1]) (rz.length.symm.trans l2)
  refine ⟨I3.kIn, wpAny_call (codeAny_mono (F.run X.A X.stack s3 H3 _ _ _ Q (E σ) hr I3.env0 bnd (kb.rel r' rz) q3) ?_)⟩
  rintro (er | fl) s4 hz
  · exact hx σ pins H3 s3 er s4 I3 hz
  · cases fl
    case ret u => exact I3.after hz
    all_goals exact False.elim hz
end
/-! ### the four ways of adding an act -/
structure Mn (K : PySem.W.Frag) (C : Addr) (x qual : Str) (st : Stmt) where
  f : Addr
  fd : FuncData
  me : Meth K C x f
  fn : Fun K x qual st f fd
structure Msr (P : Program) (w : World) (K : PySem.W.Frag) (mg : Str → Option Value) (base : Heap) (C CB CE : Addr) where
  f : Addr
  fd : FuncData
  mgf : mg "measured" = some (.ref f)
  fn : Fun K "measured" "measured" sMea f fd
  kb : KBn K fd ["name", "low", "high"] 1 ["low", "high"] (fun us ws => us ++ ws) (fun vs zs => vs ++ zs)
  G : FnOk P w K mg base (L2N.CX P w) 5 f fd ["name", "low", "high"] (spMea C CB CE)
theorem takes0N {X : Cx} : L2N.Takes X (fun _ _ _ _ => False) := fun _ _ x => by
  obtain ⟨_, _, _, _, _, _, _, _, _, _, _, _, _, _, _, _, z⟩ := x
  exact z.elim
theorem passZ {X : Cx} : Passes (L2N.CX X.prog X.w) X E0 := fun pins σ H s e s' I c => L2N.passAt takes0N σ pins H s e s' I c
def stepDue (as : List Ac) (a : Ac) : Option Er := match nameDue as a.nm with
  | some e => some e
  | none => match a with
    | .me _ lo hi => if lo > hi then some (.ends lo hi) else roomDue as "measure"
    | .tu _ k => if k < 1 then some (.cnt k) else roomDue as "turn"
    | _ => roomDue as "part"
theorem nameDue_none {as : List Ac} {z : Str} (h : nameDue as z = none) : okS z = true ∧ taken as z = false := by
  unfold nameDue at h
  by_cases e : okS z = true
  · rw [if_pos e] at h
    by_cases e2 : taken as z = true
    · rw [if_pos e2] at h
      cases h
    · exact ⟨e, by simpa using e2⟩
  · rw [if_neg e] at h
    cases h
theorem Kp.eq {L : Addr} {H : Hp} {o : HO} : Kp L H (L2.upd H L o) := Kp.upd
theorem ActsR.snoc {C : Addr} {H : Hp} {L t : Addr} {xs ys : List V} {as : List Ac} {a : Ac} (hL : H L = some (.lst xs)) (hA : RAll C H xs as) (hz : as.length ≤ 199) (ht : H t = some (.tup ys)) (ha : AcR C H (.ref t) a) : ActsR C (L2.upd H L (.lst (xs ++ [.ref t]))) L (as ++ [a]) := by
  have k : Kt H (L2.upd H L (.lst (xs ++ [.ref t]))) := Kt.upd hL
  exact ⟨⟨_, upd_same, (hA.kt k).app (.one (ha.kt k))⟩, by rw [List.length_append]; show as.length + 1 ≤ 200; omega⟩
abbrev sCme1 : Stmt := inClass sCrd 5
theorem scCme1 : FnScope ["self", "name", "low", "high"] ["self", "name", "low", "high"] (defScope sCme1) := ⟨rfl, rfl, rfl, by decide +kernel, rfl, by decide +kernel, by decide +kernel⟩
def spMe1 (C D : Addr) (xc : Nat → Addr) : Sp := fun vs H Q E => ∃ (p L : Addr) (as : List Ac) (z : Str) (lo hi : Int), vs = [.ref p, .str z, .int lo, .int hi] ∧ CardP D H p L ∧ ActsR C H L as ∧ as.length ≤ 199 ∧ z.cps.toList.length ≤ 900 ∧ (∀ e, stepDue as (.me z lo hi) = some e → Thr E xc H e) ∧
  (stepDue as (.me z lo hi) = none → ∀ f H', Kp L H H' → FormAt C H' f 0 [⟨z, 1, lo, hi⟩] → ActsR C H' L (as ++ [.me z lo hi]) → Q (.ref f) H')
theorem ok_me1 {C D : Addr} (XS : Xs K mg) (T : Crd K mg D) (M : Mn K D "measure" "Card.measure" sCme1) (NN : FkN P w K mg base 5 "_check_new_name" sCnn ["card", "name"] (spCnn C D XS.c)) (CR : FkN P w K mg base 3 "_check_room" sCro ["card", "kind"] (spCro C D XS.c)) (MS : Msr P w K mg base C XS.x0.C XS.x6.C) : FnOk P w K mg base (L2N.CX P w) 6 M.f M.fd ["self", "name", "low", "high"] (spMe1 C D XS.c) := by
  have F6 : FnOk P w K mg base CX0 1 XS.x6.f XS.x6.fd ["self", "low", "high"] (spX2 K "low" "high") := okX_BadEnds XS.x6.fn
  refine okN M.fn scCme1 (fun vs H Q E h => ?_) (fun cdv A outer s H vs Q E hr h => ?_)
  · obtain ⟨p, L, as, z, lo, hi, rfl, _⟩ := h
    rfl
  · obtain ⟨p, L, as, z, lo, hi, rfl, hp, hA, hsz, hz, kx, k⟩ := h
    have hr2 : Room (1 + 1) _ := hr.mono (by decide)
    refine ⟨_, (pss_cons (ps_expr (pe_callS NN.G (hr.mono (by decide)) (by rfl) NN.D.mgf NN.D.fn.kp NN.D.bd (L2N.passAt (L2N.takes_of rfl rfl rfl rfl)) (pa_cons (pv 0) (pa_cons (pv 1) pa_nil))))
      (pss_cons (ps_if (pt_cmpR op_gt (pv 2) (pv 3) (nomark _))
      (pss_one (L2N.ps_raise rfl (L2N.takes_of rfl rfl rfl rfl) (pmk_oexN (CX := CX0) XS.x6.ox XS.x6.iC XS.x6.tI F6 hr2 XS.x6.bd .nil (fun _ _ _ _ _ _ _ h => h.elim) (by rfl) XS.x6.gC (pa_cons (pv 2) (pa_cons (pv 3) pa_nil)))))
      pss_nil)
      (pss_cons (ps_expr (pe_callS CR.G (hr.mono (by decide)) (by rfl) CR.D.mgf CR.D.fn.kp CR.D.bd (L2N.passAt (L2N.takes_of rfl rfl rfl rfl)) (pa_cons (pv 0) (pa_cons pe_str pa_nil))))
      (pss_cons (ps_expr (pe_bm PySem.F.plainAttrs_list PySem.F.slot_list_append PySem.F.type_list_append mt_append (pe_fld (pv 0) rfl) (pa_cons (pe_tup (pa_cons pe_str (pa_cons (pv 1) (pa_cons (pv 2) (pa_cons (pv 3) pa_nil))))) pa_nil)))
      (pss_one (ps_ret (pe_callN MS.G (hr.mono (by decide)) (by rfl) MS.mgf MS.fn.kp MS.kb passZ (pa_cons (pv 1) pa_nil) (pk_cons (pv 2) (pk_cons (pv 3) pk_nil))))))))), ?_⟩
    refine ⟨_, rfl, _, rfl, p, L, as, z, rfl, hp, hA, hz, fun e he => kx e (by unfold stepDue; rw [show (Ac.me z lo hi).nm = z from rfl, he]), fun hn H1 s1 => ?_⟩
    obtain ⟨hok, htk⟩ := nameDue_none hn
    have sd : stepDue as (.me z lo hi) = if lo > hi then some (.ends lo hi) else roomDue as "measure" := by
      unfold stepDue
      rw [show (Ac.me z lo hi).nm = z from rfl, hn]
    refine ⟨_, rfl, _, rfl, _, _, rfl, rfl, _, rfl, ite2 (fun e => ?_) (fun e => ?_)⟩
    · have e1 : lo > hi := of_decide_eq_true e
      exact ⟨_, rfl, _, rfl, read2 XS.x6.ox (XS.x6.no "low" List.mem_cons_self) (XS.x6.no "high" (List.mem_cons_of_mem _ List.mem_cons_self)) ((kx (.ends lo hi) (by rw [sd, if_pos e1])).same s1)⟩
    · have e1 : ¬ lo > hi := fun z => e (decide_eq_true z)
      rw [if_neg e1] at sd
      refine ⟨_, rfl, p, L, as, _, rfl, hp.kt (.same s1), hA.same s1, List.mem_cons_self, fun er he => (kx er (by rw [sd]; exact he)).same s1, fun hn2 H2 s2 => ?_⟩
      have s12 := s1.trans s2
      obtain ⟨dx, hp2⟩ := hp.kt (.same s12)
      obtain ⟨⟨xs, hL, hR⟩, _⟩ := hA.same s12
      refine ⟨_, rfl, p, D, dx, _, .ref L, rfl, hp2, T.cl, T.nA, rfl, .inl ⟨rfl, xs, sql_of hL⟩, _, rfl, _, rfl, _, rfl, (by show 4 ≤ sizeLine; decide), fun t nt => ?_⟩
      have st := same_upd (o := .tup [V.str "measure", V.str z, V.int lo, V.int hi]) nt
      have hL3 := st _ _ hL
      have hR3 := hR.kt (.same st)
      have ht : (upd H2 t (.tup [V.str "measure", V.str z, V.int lo, V.int hi])) t = some (.tup [V.str "measure", V.str z, V.int lo, V.int hi]) := upd_same
      have s13 := s12.trans st
      generalize (upd H2 t (.tup [V.str "measure", V.str z, V.int lo, V.int hi])) = H3 at st hL3 hR3 ht s13
      refine ⟨L, xs, _, rfl, rfl, hL3, (by have := hR.len; exact small1000 (by omega)), ?_⟩
      have hS := ActsR.snoc (C := C) (a := .me z lo hi) hL3 hR3 hsz ht ⟨t, _, rfl, ht, rfl⟩
      refine ⟨_, rfl, _, rfl, _, rfl, rfl, rfl, z.cps.toList, lo, hi, by rw [tx_cps]; rfl, hz, fun z2 => ?_, fun _ z2 => absurd z2 e1, fun _ _ f H5 nf s5 hf => ?_⟩
      · unfold okS at hok
        rw [hok] at z2
        cases z2
      · rw [tx_cps] at hf
        exact k (by rw [sd, hn2]) f H5 ((Kp.same s13).trans (Kp.upd.trans (Kp.same s5))) hf (hS.same s5)
abbrev sCtu : Stmt := inClass sCrd 6
theorem scCtu : FnScope ["self", "name", "options"] ["self", "name", "options"] (defScope sCtu) := ⟨rfl, rfl, rfl, by decide +kernel, rfl, by decide +kernel, by decide +kernel⟩
def spTu (C D : Addr) (xc : Nat → Addr) : Sp := fun vs H Q E => ∃ (p L : Addr) (as : List Ac) (z : Str) (n : Int), vs = [.ref p, .str z, .int n] ∧ CardP D H p L ∧ ActsR C H L as ∧ as.length ≤ 199 ∧ z.cps.toList.length ≤ 900 ∧ (∀ e, stepDue as (.tu z n) = some e → Thr E xc H e) ∧
  (stepDue as (.tu z n) = none → ∀ H', Kp L H H' → ActsR C H' L (as ++ [.tu z n]) → Q .non H')
theorem ok_tu {C D : Addr} (XS : Xs K mg) (T : Crd K mg D) (M : Mn K D "turn" "Card.turn" sCtu) (NN : FkN P w K mg base 5 "_check_new_name" sCnn ["card", "name"] (spCnn C D XS.c)) (CR : FkN P w K mg base 3 "_check_room" sCro ["card", "kind"] (spCro C D XS.c)) : FnOk P w K mg base (L2N.CX P w) 6 M.f M.fd ["self", "name", "options"] (spTu C D XS.c) := by
  have F7 : FnOk P w K mg base CX0 1 XS.x7.f XS.x7.fd ["self", "options"] (spX1 K "options") := okX_BadCount XS.x7.fn
  refine okN M.fn scCtu (fun vs H Q E h => ?_) (fun cdv A outer s H vs Q E hr h => ?_)
  · obtain ⟨p, L, as, z, n, rfl, _⟩ := h
    rfl
  · obtain ⟨p, L, as, z, n, rfl, hp, hA, hsz, hz, kx, k⟩ := h
    have hr2 : Room (1 + 1) _ := hr.mono (by decide)
    refine ⟨_, (pss_cons (ps_expr (pe_callS NN.G (hr.mono (by decide)) (by rfl) NN.D.mgf NN.D.fn.kp NN.D.bd (L2N.passAt (L2N.takes_of rfl rfl rfl rfl)) (pa_cons (pv 0) (pa_cons (pv 1) pa_nil))))
      (pss_cons (ps_if (pt_cmpR op_lt (pv 2) pe_int (nomark _))
      (pss_one (L2N.ps_raise rfl (L2N.takes_of rfl rfl rfl rfl) (pmk_oexN (CX := CX0) XS.x7.ox XS.x7.iC XS.x7.tI F7 hr2 XS.x7.bd .nil (fun _ _ _ _ _ _ _ h => h.elim) (by rfl) XS.x7.gC (pa_cons (pv 2) pa_nil))))
      pss_nil)
      (pss_cons (ps_expr (pe_callS CR.G (hr.mono (by decide)) (by rfl) CR.D.mgf CR.D.fn.kp CR.D.bd (L2N.passAt (L2N.takes_of rfl rfl rfl rfl)) (pa_cons (pv 0) (pa_cons pe_str pa_nil))))
      (pss_one (ps_expr (pe_bm PySem.F.plainAttrs_list PySem.F.slot_list_append PySem.F.type_list_append mt_append (pe_fld (pv 0) rfl) (pa_cons (pe_tup (pa_cons pe_str (pa_cons (pv 1) (pa_cons (pv 2) pa_nil)))) pa_nil))))))), ?_⟩
    refine ⟨_, rfl, _, rfl, p, L, as, z, rfl, hp, hA, hz, fun e he => kx e (by unfold stepDue; rw [show (Ac.tu z n).nm = z from rfl, he]), fun hn H1 s1 => ?_⟩
    have sd : stepDue as (.tu z n) = if n < 1 then some (.cnt n) else roomDue as "turn" := by
      unfold stepDue
      rw [show (Ac.tu z n).nm = z from rfl, hn]
    refine ⟨_, rfl, _, _, rfl, rfl, _, rfl, ite2 (fun e => ?_) (fun e => ?_)⟩
    · have e1 : n < 1 := of_decide_eq_true e
      exact ⟨_, rfl, read1 XS.x7.ox (XS.x7.no "options" List.mem_cons_self) ((kx (.cnt n) (by rw [sd, if_pos e1])).same s1)⟩
    · have e1 : ¬ n < 1 := fun z => e (decide_eq_true z)
      rw [if_neg e1] at sd
      refine ⟨_, rfl, p, L, as, _, rfl, hp.kt (.same s1), hA.same s1, by decide, fun er he => (kx er (by rw [sd]; exact he)).same s1, fun hn2 H2 s2 => ?_⟩
      have s12 := s1.trans s2
      obtain ⟨dx, hp2⟩ := hp.kt (.same s12)
      obtain ⟨⟨xs, hL, hR⟩, _⟩ := hA.same s12
      refine ⟨_, rfl, p, D, dx, _, .ref L, rfl, hp2, T.cl, T.nA, rfl, .inl ⟨rfl, xs, sql_of hL⟩, _, rfl, _, rfl, (by show 3 ≤ sizeLine; decide), fun t nt => ?_⟩
      have st := same_upd (o := .tup [V.str "turn", V.str z, V.int n]) nt
      have hL3 := st _ _ hL
      have hR3 := hR.kt (.same st)
      have ht : (upd H2 t (.tup [V.str "turn", V.str z, V.int n])) t = some (.tup [V.str "turn", V.str z, V.int n]) := upd_same
      have s13 := s12.trans st
      generalize (upd H2 t (.tup [V.str "turn", V.str z, V.int n])) = H3 at st hL3 hR3 ht s13
      refine ⟨L, xs, _, rfl, rfl, hL3, (by have := hR.len; exact small1000 (by omega)), ?_⟩
      have hS := ActsR.snoc (C := C) (a := .tu z n) hL3 hR3 hsz ht ⟨t, _, rfl, ht, rfl⟩
      exact k (by rw [sd, hn2]) _ ((Kp.same s13).trans Kp.upd) hS
abbrev sCpa : Stmt := inClass sCrd 7
theorem scCpa : FnScope ["self", "name"] ["self", "name"] (defScope sCpa) := ⟨rfl, rfl, rfl, by decide +kernel, rfl, by decide +kernel, by decide +kernel⟩
def spPa (C D : Addr) (xc : Nat → Addr) : Sp := fun vs H Q E => ∃ (p L : Addr) (as : List Ac) (z : Str), vs = [.ref p, .str z] ∧ CardP D H p L ∧ ActsR C H L as ∧ as.length ≤ 199 ∧ z.cps.toList.length ≤ 900 ∧ (∀ e, stepDue as (.pa z) = some e → Thr E xc H e) ∧
  (stepDue as (.pa z) = none → ∀ H', Kp L H H' → ActsR C H' L (as ++ [.pa z]) → Q .non H')
theorem ok_pa {C D : Addr} (XS : Xs K mg) (T : Crd K mg D) (M : Mf K D "part" "Card.part" sCpa ["self", "name"]) (NN : FkN P w K mg base 5 "_check_new_name" sCnn ["card", "name"] (spCnn C D XS.c)) (CR : FkN P w K mg base 3 "_check_room" sCro ["card", "kind"] (spCro C D XS.c)) : FnOk P w K mg base (L2N.CX P w) 6 M.f M.fd ["self", "name"] (spPa C D XS.c) := by
  refine okN M.fn scCpa (fun vs H Q E h => ?_) (fun cdv A outer s H vs Q E hr h => ?_)
  · obtain ⟨p, L, as, z, rfl, _⟩ := h
    rfl
  · obtain ⟨p, L, as, z, rfl, hp, hA, hsz, hz, kx, k⟩ := h
    refine ⟨_, (pss_cons (ps_expr (pe_callS NN.G (hr.mono (by decide)) (by rfl) NN.D.mgf NN.D.fn.kp NN.D.bd (L2N.passAt (L2N.takes_of rfl rfl rfl rfl)) (pa_cons (pv 0) (pa_cons (pv 1) pa_nil))))
      (pss_cons (ps_expr (pe_callS CR.G (hr.mono (by decide)) (by rfl) CR.D.mgf CR.D.fn.kp CR.D.bd (L2N.passAt (L2N.takes_of rfl rfl rfl rfl)) (pa_cons (pv 0) (pa_cons pe_str pa_nil))))
      (pss_one (ps_expr (pe_bm PySem.F.plainAttrs_list PySem.F.slot_list_append PySem.F.type_list_append mt_append (pe_fld (pv 0) rfl) (pa_cons (pe_tup (pa_cons pe_str (pa_cons (pv 1) pa_nil))) pa_nil)))))), ?_⟩
    refine ⟨_, rfl, _, rfl, p, L, as, z, rfl, hp, hA, hz, fun e he => kx e (by unfold stepDue; rw [show (Ac.pa z).nm = z from rfl, he]), fun hn H1 s1 => ?_⟩
    have sd : stepDue as (.pa z) = roomDue as "part" := by
      unfold stepDue
      rw [show (Ac.pa z).nm = z from rfl, hn]
    refine ⟨_, rfl, p, L, as, _, rfl, hp.kt (.same s1), hA.same s1, by decide, fun er he => (kx er (by rw [sd]; exact he)).same s1, fun hn2 H2 s2 => ?_⟩
    have s12 := s1.trans s2
    obtain ⟨dx, hp2⟩ := hp.kt (.same s12)
    obtain ⟨⟨xs, hL, hR⟩, _⟩ := hA.same s12
    refine ⟨_, rfl, p, D, dx, _, .ref L, rfl, hp2, T.cl, T.nA, rfl, .inl ⟨rfl, xs, sql_of hL⟩, _, rfl, (by show 2 ≤ sizeLine; decide), fun t nt => ?_⟩
    have st := same_upd (o := .tup [V.str "part", V.str z]) nt
    have hL3 := st _ _ hL
    have hR3 := hR.kt (.same st)
    have ht : (upd H2 t (.tup [V.str "part", V.str z])) t = some (.tup [V.str "part", V.str z]) := upd_same
    have s13 := s12.trans st
    generalize (upd H2 t (.tup [V.str "part", V.str z])) = H3 at st hL3 hR3 ht s13
    refine ⟨L, xs, _, rfl, rfl, hL3, (by have := hR.len; exact small1000 (by omega)), ?_⟩
    have hS := ActsR.snoc (C := C) (a := .pa z) hL3 hR3 hsz ht ⟨t, _, rfl, ht, rfl⟩
    exact k (by rw [sd, hn2]) _ ((Kp.same s13).trans Kp.upd) hS
end
end DO

namespace DO
open PySem PySem.Spec PyProof.Rows L2
section
variable {P : Program} {w : World} {K : PySem.W.Frag} {mg : Str → Option Value} {base : Heap}
/-- a form or a number -/
inductive Opd (C : Addr) (H : Hp) : V → Int → List Tm → Prop
  | form (p : Addr) (n : Int) (ts : List Tm) (h : FormAt C H p n ts) : Opd C H (.ref p) n ts
  | num (n : Int) : Opd C H (.int n) n []
theorem Opd.kt {C : Addr} {H H' : Hp} {x : V} {n : Int} {ts : List Tm} (h : Opd C H x n ts) (k : Kt H H') : Opd C H' x n ts := by
  cases h with
  | form p n ts h => exact .form p n ts (h.kt k)
  | num n => exact .num n
def paP : Ac → Option Str
  | .pa w => some w
  | _ => none
theorem paP_ru (a : Ac) (h : a.isRu = true) : paP a = none := by
  cases a with
  | ru u l n ts ps => rfl
  | _ => cases h
theorem lab_pa {a : Ac} (e : decide (V.str a.lab = V.str (Str.ofString "part")) = true) : ∃ w, a = .pa w := by
  have e1 : a.lab = Str.ofString "part" := V.str.inj (of_decide_eq_true e)
  cases a with
  | me w lo hi => exact absurd e1 (by show ¬ Str.ofString "measure" = Str.ofString "part"; decide)
  | tu w k => exact absurd e1 (by show ¬ Str.ofString "turn" = Str.ofString "part"; decide)
  | pa w => exact ⟨w, rfl⟩
  | ru u l n ts ps => exact absurd e1 (by show ¬ Str.ofString "rule" = Str.ofString "part"; decide)
theorem not_pa {a : Ac} (e : ¬ decide (V.str a.lab = V.str (Str.ofString "part")) = true) : paP a = none := by
  cases a with
  | pa w => exact absurd (decide_eq_true rfl) e
  | _ => rfl
def partsOf (as : List Ac) : List Str := "frame" :: as.filterMap paP
def ruleDue (as : List Ac) (u l : Str) (ts : List Tm) (ps : List (Str × Int)) : Option Er :=
  if u ∉ partsOf as then some (.nam 2 u) else if l ∉ partsOf as then some (.nam 2 l) else if u = l then some (.nam 4 u) else
  match measDue as ts with
  | some e => some e
  | none => match whenDue as ps with
    | some e => some e
    | none => if (rulesOf as).length ≥ 80 then some (.ful "rule") else none
theorem strs_list {H : Hp} {l : List Str} {ys : List V} (h : All2 (fun v (z : Str) => v = V.str z) ys l) : ys = l.map V.str := by
  induction h with
  | nil => rfl
  | cons e _ ih => rw [List.map_cons, ← ih, e]
/-! ### a rule -/
abbrev sCru : Stmt := inClass sCrd 8
theorem scCru : FnScope ["self", "upper", "lower", "least", "when", "parts", "step", "name", "form", "pairs"] ["self", "upper", "lower", "least", "when"] (defScope sCru) := ⟨rfl, rfl, rfl, by decide +kernel, rfl, by decide +kernel, by decide +kernel⟩
def spRu (K : PySem.W.Frag) (C D : Addr) (xc : Nat → Addr) : Sp := fun vs H Q E => ∃ (p L wv : Addr) (as : List Ac) (u l : Str) (x : V) (n : Int) (ts : List Tm) (ps : List (Str × Int)), vs = [.ref p, .str u, .str l, x, .ref wv] ∧ CardP D H p L ∧ ActsR C H L as ∧ as.length ≤ 199 ∧ (namesOf as).Nodup ∧ Opd C H x n ts ∧ ts.length ≤ 900 ∧ WhenAt K H wv ps ∧ ps.length ≤ 900 ∧ (∀ e, ruleDue as u l ts ps = some e → Thr E xc H e) ∧
  (ruleDue as u l ts ps = none → ∀ H', Kp L H H' → ActsR C H' L (as ++ [.ru u l n ts (srtP ps)]) → Q .non H')
theorem ok_ru {C D : Addr} (XS : Xs K mg) (T : Crd K mg D) (PS : Pk P w K mg base 1 D "steps" (spSteps C D)) (PR : Pk P w K mg base 1 D "rules" (spRules C D)) (CM : FkN P w K mg base 3 "_check_measures" sCme ["card", "form"] (spCme C D XS.c)) (CW : FkN P w K mg base 3 "_checked_when" sCwh ["card", "when"] (spCwh K C D XS.c)) (TF : Frm K mg C) (M : Mn K D "rule" "Card.rule" sCru) (MI : Mf K C "__init__" "Form.__init__" sIni ["self", "constant"]) (MK : Mk K C MI.f) (hfr : ∃ t, mg "FRAME" = some (.str "frame" t)) (hmr : ∃ t, mg "MOST_RULES" = some (.int 80 t)) (mis : mg "isinstance" = none) (ml : mg "len" = none) :
    FnOk P w K mg base (L2N.CX P w) 6 M.f M.fd ["self", "upper", "lower", "least", "when"] (spRu K C D XS.c) := by
  obtain ⟨tfr, hfr⟩ := hfr
  obtain ⟨tmr, hmr⟩ := hmr
  have GI : FnOk P w K mg base CX0 1 MI.f MI.fd ["self", "constant"] (spIni C) := ok_ini TF MI
  have F2 : FnOk P w K mg base CX0 1 XS.x2.f XS.x2.fd ["self", "name"] (spX1 K "name") := okX_UnknownName XS.x2.fn
  have F4 : FnOk P w K mg base CX0 1 XS.x4.f XS.x4.fd ["self", "name"] (spX1 K "name") := okX_SamePart XS.x4.fn
  have F9 : FnOk P w K mg base CX0 1 XS.x9.f XS.x9.fd ["self", "kind"] (spX1 K "kind") := okX_CardFull XS.x9.fn
  refine okN M.fn scCru (fun vs H Q E h => ?_) (fun cdv A outer s H vs Q E hr h => ?_)
  · obtain ⟨p, L, wv, as, u, l, x, n, ts, ps, rfl, _⟩ := h
    rfl
  · obtain ⟨p, L, wv, as, u, l, x, n, ts, ps, rfl, hp, hA, hsz, hnd, hx, hts, hW, hps, kx, k⟩ := h
    have hu := hu_of hr
    have hr2 : Room (1 + 1) _ := hr.mono (by decide)
    refine ⟨_, (pss_cons (ps_set (i := 5) scCru.nd rfl (.inl rfl) (pe_op op_cat (pe_lst (pa_cons (pe_glob (v := .str "frame") (by rfl) hfr ⟨_, rfl⟩) pa_nil)) (pe_lc (own := [("step", 6)]) (g := gName 6) (tt := _) rfl scCru.nd (pi_list (pe_prop (pv 0) T.cl PS.pr PS.G (hr.mono (by decide)) PS.bd .nil pass0 rfl)) (blkOk_by (N := ["self", "upper", "lower", "least", "when", "parts", "step", "name", "form", "pairs"]) (sc := defScope sCru) (by decide +kernel)) (fun _ _ _ _ _ => pg_name (i := 6) scCru.nd rfl (Or.inl rfl)) (fun _ _ _ _ _ => pts_one (pt_cmpR op_eq (pe_ix (show IxR _ (rIxT K) from ix_tup) (pv 6) pe_int (fun _ _ => rfl)) pe_str (nomark _))) (fun _ _ _ _ _ => (pe_ix (show IxR _ (rIxT K) from ix_tup) (pv 6) pe_int (fun _ _ => rfl)))))) (pss_cons (ps_for (passes_of rfl) rfl (pi_tup (pe_tup (pa_cons (pv 1) (pa_cons (pv 2) pa_nil)))) (pg_name (i := 7) scCru.nd rfl (Or.inl rfl))
      (pss_one (ps_if (pt_cmpR (show OpR _ _ (rIn K true) from op_notIn_seq) (pv 7) (pv 5) rfl)
      (pss_one (L2N.ps_raise rfl (L2N.takes_of rfl rfl rfl rfl) (pmk_oexN (CX := CX0) XS.x2.ox XS.x2.iC XS.x2.tI F2 hr2 XS.x2.bd .nil (fun _ _ _ _ _ _ _ h => h.elim) (by rfl) XS.x2.gC (pa_cons (pv 7) pa_nil))))
      pss_nil))) (pss_cons (ps_if (pt_cmpR op_eq (pv 1) (pv 2) (nomark _))
      (pss_one (L2N.ps_raise rfl (L2N.takes_of rfl rfl rfl rfl) (pmk_oexN (CX := CX0) XS.x4.ox XS.x4.iC XS.x4.tI F4 hr2 XS.x4.bd .nil (fun _ _ _ _ _ _ _ h => h.elim) (by rfl) XS.x4.gC (pa_cons (pv 1) pa_nil))))
      pss_nil) (C8.pss_cut (ps_set (i := 8) scCru.nd rfl (.inl rfl) (pe_ifExp (pt_val (pe_callB call_isi (by rfl) mis (by decide +kernel) (pa_cons (pv 3) (pa_cons (pe_glob (v := .ref C) (by rfl) TF.mgC rfl) pa_nil)))) (pv 3) (pe_make MK GI (hr.mono (by decide)) rfl TF.mgC MI.bd .nil pass0 (pa_cons (pv 3) pa_nil)))) (pss_cons (ps_expr (pe_callS CM.G (hr.mono (by decide)) (by rfl) CM.D.mgf CM.D.fn.kp CM.D.bd (L2N.passAt (L2N.takes_of rfl rfl rfl rfl)) (pa_cons (pv 0) (pa_cons (pv 8) pa_nil)))) (pss_cons (ps_set (i := 9) scCru.nd rfl (.inl rfl) (pe_callS CW.G (hr.mono (by decide)) (by rfl) CW.D.mgf CW.D.fn.kp CW.D.bd (L2N.passAt (L2N.takes_of rfl rfl rfl rfl)) (pa_cons (pv 0) (pa_cons (pv 4) pa_nil)))) (pss_cons (ps_if (pt_cmpR op_ge (pe_callB call_len_seq (by rfl) ml PySem.boot_len (pa_cons (pe_prop (pv 0) T.cl PR.pr PR.G (hr.mono (by decide)) PR.bd .nil pass0 rfl) pa_nil)) (pe_glob (v := .int 80) (by rfl) hmr ⟨_, rfl⟩) (nomark _))
      (pss_one (L2N.ps_raise rfl (L2N.takes_of rfl rfl rfl rfl) (pmk_oexN (CX := CX0) XS.x9.ox XS.x9.iC XS.x9.tI F9 hr2 XS.x9.bd .nil (fun _ _ _ _ _ _ _ h => h.elim) (by rfl) XS.x9.gC (pa_cons pe_str pa_nil))))
      pss_nil) (pss_one (ps_expr (pe_bm PySem.F.plainAttrs_list PySem.F.slot_list_append PySem.F.type_list_append mt_append (pe_fld (pv 0) rfl) (pa_cons (pe_tup (pa_cons pe_str (pa_cons (pv 1) (pa_cons (pv 2) (pa_cons (pv 8) (pa_cons (pv 9) pa_nil)))))) pa_nil))))))))))), ?_⟩
    have hsl := step_len as
    refine ⟨(by show 1 ≤ sizeLine; decide), fun q0 nq0 => ?_⟩
    have s0 := same_upd (o := .lst [V.str "frame"]) nq0
    have hq0 : (upd H q0 (.lst [V.str "frame"])) q0 = some (.lst [V.str "frame"]) := upd_same
    generalize (upd H q0 (.lst [V.str "frame"])) = H0 at s0 hq0
    obtain ⟨dx, hp'⟩ := hp.kt (.same s0)
    refine ⟨_, rfl, p, dx, _, rfl, hp', p, L, as, rfl, hp.kt (.same s0), hA.same s0, fun B ys H1 nB hB hR s1' => ⟨B, rfl, ⟨_, sql_of hB⟩, fun E1 nE => ?_⟩⟩
    have s1 := s0.trans s1'
    have hq1 := s1' _ _ hq0
    have hl := hR.len
    refine lc_pick walk_list (stepsOf as) paP (fun _ v z => v = .str z) (fun _ _ _ _ _ z => z) nE (fun H2 s2 => sql_of (s2 _ _ hB)) hl (by omega) (fun i x c H2 Yes No hx hc s2 hY hN => ?_) (fun H2 zs hE hZ s2 => ?_)
    · obtain ⟨c', hc', hxc⟩ := hR.at_ hx
      obtain rfl : c' = c := Option.some.inj (hc'.symm.trans hc)
      have hx2 := hxc.kt (.same s2)
      obtain ⟨t, ws, rfl, ht, hn⟩ := hx2.lab
      refine ⟨rfl, _, rfl, t, _, 0, .str c'.lab, rfl, rfl, sql_ofT ht, at0, rfl, _, rfl, ite2 (fun e => ?_) (fun e => ?_)⟩
      · obtain ⟨w', rfl⟩ := lab_pa e
        obtain ⟨t', xs', e', h1, rfl⟩ := hx2
        cases e'
        exact ⟨_, rfl, t, _, 1, .str w', rfl, rfl, sql_ofT h1, at1, hY _ _ w' rfl (.refl _) rfl⟩
      · exact hN _ (not_pa e) (.refl _)
    rw [pick_steps paP paP_ru] at hZ
    obtain rfl := strs_list (H := H2) hZ
    have s12 := s1.trans s2
    have hpl : (as.filterMap paP).length ≤ 199 := Nat.le_trans (List.length_filterMap_le _ _) hsz
    refine ⟨q0, E1, _, _, rfl, rfl, s2 _ _ hq1, hE, (by rw [List.length_map]; exact sz16 (by show 1 + _ ≤ 1000; omega)), fun R nR => ?_⟩
    have hRp : (upd H2 R (.lst ([V.str "frame"] ++ (as.filterMap paP).map V.str))) R = some (.lst ((partsOf as).map V.str)) := upd_same
    have s13 := s12.trans (same_upd (o := .lst ([V.str "frame"] ++ (as.filterMap paP).map V.str)) nR)
    generalize (upd H2 R (.lst ([V.str "frame"] ++ (as.filterMap paP).map V.str))) = H3 at hRp s13
    refine ⟨_, rfl, _, rfl, (by show 2 ≤ sizeLine; decide), fun tq ntq => ?_⟩
    have sq := same_upd (o := .tup [V.str u, V.str l]) ntq
    have htq : (upd H3 tq (.tup [V.str u, V.str l])) tq = some (.tup [V.str u, V.str l]) := upd_same
    have hRp4 := sq _ _ hRp
    have s14 := s13.trans sq
    generalize (upd H3 tq (.tup [V.str u, V.str l])) = H4 at sq htq hRp4 s14
    refine ⟨tq, rfl, ⟨_, sql_ofT htq⟩, for_tup (K := K) (a := tq) (xs := [V.str u, V.str l]) (fun i σ H5 => ∃ x6 x7, σ = [some (.ref p), some (.str u), some (.str l), some x, some (.ref wv), some (.ref R), x6, x7, none, none] ∧ H5 = H4 ∧ (1 ≤ i → u ∈ partsOf as) ∧ (2 ≤ i → l ∈ partsOf as)) ⟨none, none, rfl, rfl, fun z => absurd z (by decide), fun z => absurd z (by decide)⟩ (fun i σ H5 _ ⟨_, _, _, e, _⟩ => by rw [e]; exact sql_ofT htq) ?_ ?_⟩
    · rintro i y σ H5 hi ⟨x6, x7, rfl, rfl, i1, i2⟩
      have hi2 : i < 2 := (List.getElem?_eq_some_iff.mp hi).1
      have hcase : (i = 0 ∧ y = .str u) ∨ (i = 1 ∧ y = .str l) := by
        have : i = 0 ∨ i = 1 := by omega
        rcases this with rfl | rfl
        · exact .inl ⟨rfl, (Option.some.inj hi).symm⟩
        · exact .inr ⟨rfl, (Option.some.inj hi).symm⟩
      rcases hcase with ⟨rfl, rfl⟩ | ⟨rfl, rfl⟩
      · refine ⟨_, rfl, _, rfl, R, _, rfl, .inl (sql_of hRp4), rfl, flat_strs _, _, rfl, ?_⟩
        rw [if_pos rfl, inV_str]
        refine ite2 (fun e => ?_) (fun e => ?_)
        · have e1 : u ∉ partsOf as := by simpa using e
          exact ⟨_, rfl, read1 XS.x2.ox (XS.x2.no "name" List.mem_cons_self) ((kx (.nam 2 u) (by unfold ruleDue; rw [if_pos e1])).same s14)⟩
        · have e1 : u ∈ partsOf as := by simpa using e
          exact ⟨_, _, rfl, rfl, fun _ => e1, fun z => absurd z (by decide)⟩
      · have hup := i1 (Nat.le_refl _)
        refine ⟨_, rfl, _, rfl, R, _, rfl, .inl (sql_of hRp4), rfl, flat_strs _, _, rfl, ?_⟩
        rw [if_pos rfl, inV_str]
        refine ite2 (fun e => ?_) (fun e => ?_)
        · have e1 : l ∉ partsOf as := by simpa using e
          exact ⟨_, rfl, read1 XS.x2.ox (XS.x2.no "name" List.mem_cons_self) ((kx (.nam 2 l) (by unfold ruleDue; rw [if_neg (fun z => z hup), if_pos e1])).same s14)⟩
        · have e1 : l ∈ partsOf as := by simpa using e
          exact ⟨_, _, rfl, rfl, fun _ => hup, fun _ => e1⟩
    rintro σ H5 ⟨x6, x7, rfl, rfl, i1, i2⟩
    have hup := i1 (by show 1 ≤ 2; decide)
    have hlp := i2 (Nat.le_refl _)
    have rd0 : ruleDue as u l ts ps = if u = l then some (.nam 4 u) else match measDue as ts with
      | some e => some e
      | none => match whenDue as ps with
        | some e => some e
        | none => if (rulesOf as).length ≥ 80 then some (.ful "rule") else none := by
      unfold ruleDue
      rw [if_neg (fun z => z hup), if_neg (fun z => z hlp)]
    refine ⟨_, rfl, _, rfl, rfl, _, rfl, ite2 (fun e => ?_) (fun e => ?_)⟩
    · have e1 : u = l := V.str.inj (of_decide_eq_true e)
      exact ⟨_, rfl, read1 XS.x4.ox (XS.x4.no "name" List.mem_cons_self) ((kx (.nam 4 u) (by rw [rd0, if_pos e1])).same s14)⟩
    have e1 : ¬ u = l := fun z => e (decide_eq_true (congrArg V.str z))
    rw [if_neg e1] at rd0
    refine ⟨fun σ' H' => ∃ f x6 x7, σ' = [some (.ref p), some (.str u), some (.str l), some x, some (.ref wv), some (.ref R), x6, x7, some (.ref f), none] ∧ Same H H' ∧ FormAt C H' f n ts, ?_, ?_⟩
    · cases hx.kt (.same s14) with
      | form f n ts hf =>
        refine ⟨_, rfl, _, _, _, _, true, rfl, .own C, TyX_frm TF hf, TF.kC, true, rfl, ?_⟩
        exact iteT' rfl ⟨_, rfl, f, _, _, rfl, s14, hf⟩
      | num n =>
        refine ⟨_, rfl, _, _, _, _, false, rfl, .own C, .base (.int n), TF.kI, false, rfl, ?_⟩
        refine iteF' rfl ⟨_, rfl, fun f df nf ndf hne => ⟨f, df, n, rfl, upd_same, fun t0 H6 nt0 hf0 ht0 kp => ⟨rfl, ?_⟩⟩⟩
        have s16 := s14.trans (made_same nf ndf kp)
        exact ⟨f, _, _, rfl, s16, ⟨df, t0, [], hf0, ht0, .nil⟩⟩
    rintro σ' H6 ⟨f, x6, x7, rfl, s16, hf⟩
    refine ⟨_, rfl, _, rfl, p, L, f, as, n, ts, rfl, hp.kt (.same s16), hA.same s16, hnd, hf, hts, fun er he => (kx er (by rw [rd0, he])).same s16, fun hm H7 s7 => ?_⟩
    rw [hm] at rd0
    have s17 := s16.trans s7
    refine ⟨_, rfl, _, rfl, p, L, wv, as, ps, rfl, hp.kt (.same s17), hA.same s17, hnd, hW.same s17, hps, fun er he => (kx er (by rw [rd0]; show (match whenDue as ps with | some e => some e | none => _) = _; rw [he])).same s17, fun hw t us H8 ht hus s8 => ?_⟩
    have rd1 : ruleDue as u l ts ps = if (rulesOf as).length ≥ 80 then some (.ful "rule") else none := by
      rw [rd0]
      show (match whenDue as ps with | some e => some e | none => _) = _
      rw [hw]
    have s18 := s17.trans s8
    obtain ⟨dx8, hp8⟩ := hp.kt (.same s18)
    refine ⟨_, rfl, p, dx8, _, rfl, hp8, p, L, as, rfl, hp.kt (.same s18), hA.same s18, fun B2 ys2 H9 nB2 hB2 hR2 s9 => ?_⟩
    have s19 := s18.trans s9
    refine ⟨_, _, rfl, .inl (sql_of hB2), _, _, rfl, rfl, _, rfl, ?_⟩
    rw [hR2.len]
    refine ite2 (fun e2 => ?_) (fun e2 => ?_)
    · have e3 : (rulesOf as).length ≥ 80 := by
        have : ((rulesOf as).length : Int) ≥ 80 := of_decide_eq_true e2
        omega
      exact read1 XS.x9.ox (XS.x9.no "kind" List.mem_cons_self) ((kx (.ful "rule") (by rw [rd1, if_pos e3])).same s19)
    · have e3 : ¬ (rulesOf as).length ≥ 80 := fun z => e2 (decide_eq_true (by omega))
      obtain ⟨dx9, hp9⟩ := hp.kt (.same s19)
      obtain ⟨⟨xs, hL, hRx⟩, _⟩ := hA.same s19
      refine ⟨_, rfl, p, D, dx9, _, .ref L, rfl, hp9, T.cl, T.nA, rfl, .inl ⟨rfl, xs, sql_of hL⟩, _, rfl, _, rfl, _, rfl, _, rfl, (by show 5 ≤ sizeLine; decide), fun tt ntt => ?_⟩
      have st := same_upd (o := .tup [V.str "rule", V.str u, V.str l, V.ref f, V.ref t]) ntt
      have hL3 := st _ _ hL
      have hR3 := hRx.kt (.same st)
      have htt : (upd H9 tt (.tup [V.str "rule", V.str u, V.str l, V.ref f, V.ref t])) tt = some (.tup [V.str "rule", V.str u, V.str l, V.ref f, V.ref t]) := upd_same
      have s110 := s19.trans st
      have hf10 := hf.keep (((s7.trans s8).trans s9).trans st)
      have ht10 := (s9.trans st) _ _ ht
      have hus10 := hus.kt (.same (s9.trans st))
      generalize (upd H9 tt (.tup [V.str "rule", V.str u, V.str l, V.ref f, V.ref t])) = H10 at st hL3 hR3 htt s110 hf10 ht10 hus10
      refine ⟨L, xs, _, rfl, rfl, hL3, (by have := hRx.len; exact small1000 (by omega)), ?_⟩
      have hS := ActsR.snoc (C := C) (a := .ru u l n ts (srtP ps)) hL3 hR3 hsz htt ⟨tt, _, rfl, htt, _, rfl, f, t, us, rfl, hf10, ht10, hus10⟩
      exact k (by rw [rd1, if_neg e3]) _ ((Kp.same s110).trans Kp.upd) hS
end
end DO

namespace DO
open PySem PySem.Spec PyProof.Rows L2
section
variable {P : Program} {w : World} {K : PySem.W.Frag} {mg : Str → Option Value} {base : Heap}
/-! ### the last act taken back -/
abbrev sCba : Stmt := inClass sCrd 9
theorem scCba : FnScope ["self"] ["self"] (defScope sCba) := ⟨rfl, rfl, rfl, by decide +kernel, rfl, by decide +kernel, by decide +kernel⟩
def spBa (C D : Addr) (xc : Nat → Addr) : Sp := fun vs H Q E => ∃ (p L : Addr) (as : List Ac), vs = [.ref p] ∧ CardP D H p L ∧ ActsR C H L as ∧ (as = [] → Thr E xc H .emp) ∧ (∀ a, as.getLast? = some a → ∀ v H', Kp L H H' → AcR C H' v a → ActsR C H' L as.dropLast → Q v H')
theorem ok_ba {C D : Addr} (XS : Xs K mg) (T : Crd K mg D) (M : Mf K D "back" "Card.back" sCba ["self"]) : FnOk P w K mg base (L2N.CX P w) 1 M.f M.fd ["self"] (spBa C D XS.c) := by
  refine okN M.fn scCba (fun vs H Q E h => ?_) (fun cdv A outer s H vs Q E hr h => ?_)
  · obtain ⟨p, L, as, rfl, _⟩ := h
    rfl
  · obtain ⟨p, L, as, rfl, ⟨dx, hp⟩, ⟨⟨xs, hL, hA⟩, hz⟩, kx, k⟩ := h
    refine ⟨_, (pss_cons (ps_if (pt_not (pt_truth (pe_fld (pv 0) rfl) (by intro _; rfl)))
      (pss_one (L2N.ps_raise rfl (L2N.takes_of rfl rfl rfl rfl) (pmk_own0N PySem.F.excBase_ValueError XS.eC XS.gC XS.kC (raises_own XS.bC XS.tC) (by exact rfl))))
      pss_nil)
      (pss_one (ps_ret (pe_bm0 PySem.F.plainAttrs_list PySem.F.slot_list_pop PySem.F.type_list_pop mt_pop (pe_fld (pv 0) rfl))))), ?_⟩
    refine ⟨_, rfl, p, D, dx, _, .ref L, rfl, hp, T.cl, T.nA, rfl, !xs.isEmpty, .inl ⟨xs, sql_of hL, rfl⟩, ?_⟩
    cases hA with
    | nil =>
      refine iteT' rfl ?_
      exact kx rfl _ (.refl _)
    | @cons x a xs as h1 h2 =>
      refine iteF' rfl ?_
      have hA : RAll C H (x :: xs) (a :: as) := .cons h1 h2
      have hne : (a :: as).getLast? = some ((a :: as).getLast (by simp)) := List.getLast?_eq_some_getLast (by simp)
      generalize (a :: as).getLast (by simp) = y at hne
      obtain ⟨v, e1, e2⟩ := hA.last hne
      have e3 := e1
      rw [List.getLast?_eq_getElem?] at e3
      refine ⟨_, rfl, p, D, dx, _, .ref L, rfl, hp, T.cl, T.nA, rfl, .inl ⟨rfl, _, sql_of hL⟩, L, x :: xs, v, rfl, rfl, hL, e3, ?_⟩
      have k1 : Kt H (upd H L (.lst (x :: xs).dropLast)) := Kt.upd hL
      exact k y hne v _ Kp.upd (e2.kt k1) ⟨⟨_, upd_same, RAll.kt hA.pop k1⟩, by rw [List.length_dropLast]; omega⟩
/-! ### the form of a measure -/
def isMe (z : Str) : Ac → Option (Int × Int)
  | .me w lo hi => if w = z then some (lo, hi) else none
  | _ => none
theorem ends_some (z : Str) : ∀ as : List Ac, endsOf as z = as.findSome? (isMe z)
  | [] => rfl
  | a :: r => by
    have ih := ends_some z r
    unfold endsOf at ih ⊢
    rw [List.filterMap_cons, List.findSome?_cons]
    cases a with
    | me w lo hi =>
      simp only [meP, isMe, List.find?_cons]
      by_cases e : w = z
      · simp [e]
      · simp only [e, decide_false, if_false]
        exact ih
    | _ => exact ih
theorem isMe_steps (z : Str) : ∀ as : List Ac, (stepsOf as).findSome? (isMe z) = as.findSome? (isMe z)
  | [] => rfl
  | a :: r => by
    have ih := isMe_steps z r
    unfold stepsOf at ih ⊢
    rw [List.filterMap_cons]
    cases a with
    | ru u l n ts ps => exact ih
    | me w lo hi =>
      show ((Ac.me w lo hi) :: r.filterMap noRu).findSome? (isMe z) = _
      rw [List.findSome?_cons, List.findSome?_cons, ih]
    | tu w k => exact ih
    | pa w => exact ih
abbrev sCfo : Stmt := inClass sCrd 10
theorem scCfo : FnScope ["self", "name", "step"] ["self", "name"] (defScope sCfo) := ⟨rfl, rfl, rfl, by decide +kernel, rfl, by decide +kernel, by decide +kernel⟩
def spFo (C D : Addr) (xc : Nat → Addr) : Sp := fun vs H Q E => ∃ (p L : Addr) (as : List Ac) (z : Str), vs = [.ref p, .str z] ∧ CardP D H p L ∧ ActsR C H L as ∧ z.cps.toList.length ≤ 900 ∧ (∀ lo hi, endsOf as z = some (lo, hi) → okS z = true ∧ lo ≤ hi) ∧ (endsOf as z = none → Thr E xc H (.nam 2 z)) ∧ (∀ lo hi, endsOf as z = some (lo, hi) → ∀ f H', Same H H' → FormAt C H' f 0 [⟨z, 1, lo, hi⟩] → Q (.ref f) H')
theorem ok_fo {C D : Addr} (XS : Xs K mg) (T : Crd K mg D) (PS : Pk P w K mg base 1 D "steps" (spSteps C D)) (M : Mf K D "form" "Card.form" sCfo ["self", "name"]) (MS : Msr P w K mg base C XS.x0.C XS.x6.C) : FnOk P w K mg base (L2N.CX P w) 6 M.f M.fd ["self", "name"] (spFo C D XS.c) := by
  have F2 : FnOk P w K mg base CX0 1 XS.x2.f XS.x2.fd ["self", "name"] (spX1 K "name") := okX_UnknownName XS.x2.fn
  refine okN M.fn scCfo (fun vs H Q E h => ?_) (fun cdv A outer s H vs Q E hr h => ?_)
  · obtain ⟨p, L, as, z, rfl, _⟩ := h
    rfl
  · obtain ⟨p, L, as, z, rfl, hp, hA, hz, hok, kx, k⟩ := h
    have hr2 : Room (1 + 1) _ := hr.mono (by decide)
    refine ⟨_, (pss_cons (ps_for (passes_of rfl) rfl (pi_list (pe_prop (pv 0) T.cl PS.pr PS.G (hr.mono (by decide)) PS.bd .nil pass0 rfl)) (pg_name (i := 2) scCfo.nd rfl (Or.inl rfl))
      (pss_one (ps_if (PW.pt (pw_and (pt_cmpR op_eq (pe_ix (show IxR _ (rIxT K) from ix_tup) (pv 2) pe_int (fun _ _ => rfl)) pe_str (nomark _)) (pw_and1 (pt_cmpR op_eq (pe_ix (show IxR _ (rIxT K) from ix_tup) (pv 2) pe_int (fun _ _ => rfl)) (pv 1) (nomark _)))))
      (pss_one (ps_ret (pe_callN MS.G (hr.mono (by decide)) (by rfl) MS.mgf MS.fn.kp MS.kb passZ (pa_cons (pv 1) pa_nil) (pk_cons (pe_ix (show IxR _ (rIxT K) from ix_tup) (pv 2) pe_int (fun _ _ => rfl)) (pk_cons (pe_ix (show IxR _ (rIxT K) from ix_tup) (pv 2) pe_int (fun _ _ => rfl)) pk_nil)))))
      pss_nil)))
      (pss_one (L2N.ps_raise rfl (L2N.takes_of rfl rfl rfl rfl) (pmk_oexN (CX := CX0) XS.x2.ox XS.x2.iC XS.x2.tI F2 hr2 XS.x2.bd .nil (fun _ _ _ _ _ _ _ h => h.elim) (by rfl) XS.x2.gC (pa_cons (pv 1) pa_nil))))), ?_⟩
    obtain ⟨dx, hp'⟩ := id hp
    refine ⟨_, rfl, p, dx, _, rfl, hp', p, L, as, rfl, hp, hA, fun B ys H1 nB hB hR s1 => ⟨B, rfl, ⟨_, sql_of hB⟩, ?_⟩⟩
    have hl := hR.len
    rw [ends_some, ← isMe_steps] at kx
    refine for_list (K := K) (a := B) (xs := ys) (fun i σ H2 => ∃ x2, σ = [some (.ref p), some (.str z), x2] ∧ H2 = H1 ∧ ((stepsOf as).take i).findSome? (isMe z) = none) ⟨none, rfl, rfl, rfl⟩ (fun i σ H2 _ ⟨_, _, e, _⟩ => by rw [e]; exact sql_of hB) ?_ ?_
    · rintro i y σ H2 hi ⟨x2, rfl, rfl, hno⟩
      obtain ⟨c, hc, hx2⟩ := hR.at_ hi
      obtain ⟨t, ws, rfl, ht, hn⟩ := hx2.lab
      refine ⟨_, rfl, t, _, 0, .str c.lab, rfl, rfl, sql_ofT ht, at0, rfl, _, rfl, ite2 (fun e => ?_) (fun e => ?_)⟩
      · obtain ⟨w', lo, hi', rfl⟩ := lab_me e
        obtain ⟨t', xs', e', h1, rfl⟩ := hx2
        cases e'
        refine ⟨_, rfl, t, _, 1, .str w', rfl, rfl, sql_ofT h1, at1, _, rfl, rfl, _, rfl, ite2 (fun e2 => ?_) (fun e2 => ?_)⟩
        · obtain rfl : w' = z := V.str.inj (of_decide_eq_true e2)
          have he : endsOf as w' = some (lo, hi') := by
            rw [ends_some, ← isMe_steps]
            exact some_take hc hno (if_pos rfl)
          obtain ⟨o1, o2⟩ := hok lo hi' he
          refine ⟨_, rfl, _, rfl, t, _, 2, .int lo, rfl, rfl, sql_ofT h1, rfl, _, rfl, t, _, 3, .int hi', rfl, rfl, sql_ofT h1, rfl, rfl, rfl, w'.cps.toList, lo, hi', by rw [tx_cps]; rfl, hz, fun z2 => ?_, fun _ z2 => by omega, fun _ _ f H5 nf s5 hf => ?_⟩
          · unfold okS at o1
            rw [o1] at z2
            cases z2
          · rw [tx_cps] at hf
            exact k lo hi' he f H5 (s1.trans s5) hf
        · exact ⟨_, rfl, rfl, some_snoc hc hno (if_neg fun q => e2 (decide_eq_true (congrArg V.str q)))⟩
      · have hno2 : isMe z c = none := by
          cases c with
          | me w' lo hi' => exact absurd (decide_eq_true rfl) e
          | _ => rfl
        exact ⟨_, rfl, rfl, some_snoc hc hno hno2⟩
    · rintro σ H2 ⟨x2, rfl, rfl, hno⟩
      rw [List.take_of_length_le (by omega)] at hno
      exact ⟨_, rfl, read1 XS.x2.ox (XS.x2.no "name" List.mem_cons_self) ((kx hno).same s1)⟩
end
end DO

namespace DO
open PySem PySem.Spec PyProof.Rows L2
section
variable {P : Program} {w : World} {K : PySem.W.Frag} {mg : Str → Option Value} {base : Heap}
/-! ### the law's own names -/
abbrev sLnm : Stmt := top 43
def digs : Str := "0123456789"
theorem azn_split : azn.cps.toList = az.cps.toList ++ digs.cps.toList := by decide +kernel
theorem mem_azn (c : Nat) : c ∈ azn.cps.toList ↔ c ∈ az.cps.toList ∨ c ∈ digs.cps.toList := by rw [azn_split, List.mem_append]
theorem scLnm : FnScope ["_law_word_here", "_law_letters", "_law_sign"] ["_law_word_here"] (defScope sLnm) := ⟨rfl, rfl, rfl, by decide +kernel, rfl, by decide +kernel, by decide +kernel⟩
def spLnm : Sp := fun vs H Q _ => ∃ z : Str, vs = [.str z] ∧ z.cps.toList.length ≤ 900 ∧ Q (.bl (okS z)) H
theorem ok_lnm (D : Df K mg "_law_is_name" sLnm ["_law_word_here"]) (mln : mg "len" = none) : FnOk P w K mg base CX0 1 D.f D.fd ["_law_word_here"] spLnm := by
  refine D.fn.ok scLnm (fun vs H Q E h => ?_) (fun cdv A outer s H vs Q E hr h => ?_)
  · obtain ⟨z, rfl, _⟩ := h
    rfl
  · obtain ⟨z, rfl, hsz, k⟩ := h
    obtain ⟨ds, rfl⟩ := tx_of z
    have hok : okS (tx ds) = okNm ds := by unfold okS; rw [tx_list]
    rw [hok] at k
    rw [tx_list] at hsz
    have hlen : (tx ds).length = ds.length := tx_len ds
    refine ⟨_, (pss_cons (ps_set (i := 1) scLnm.nd rfl (.inl rfl) pe_str)
      (pss_cons (ps_if (PW.pt (pw_or (pt_cmpR op_eq (pv 0) pe_str (nomark _)) (pw_or (pt_not (pt_chain op_le op_le pe_int (pe_callB call_len_str (by rfl) mln PySem.boot_len (pa_cons (pv 0) pa_nil)) pe_int)) (pw_or1 (pt_cmpR op_notIn_sign (pe_ix ix_str (pv 0) pe_int (fun _ _ => rfl)) (pv 1) rfl)))))
      (pss_one (ps_ret pe_bl))
      pss_nil)
      (pss_cons (ps_for PassesOwn.never rfl (pi_str (pv 0)) (pg_name (i := 2) scLnm.nd rfl (Or.inl rfl))
      (pss_one (ps_if (PW.pt (pw_and (pt_cmpR op_notIn_sign (pv 2) (pv 1) rfl) (pw_and1 (pt_cmpR op_notIn_sign (pv 2) pe_str rfl))))
      (pss_one (ps_ret pe_bl))
      pss_nil)))
      (pss_one (ps_ret pe_bl))))), ?_⟩
    have no : okNm ds = false → Q (.bl false) H := fun e => by rw [e] at k; exact k
    refine ⟨_, rfl, rfl, _, rfl, ite2 (fun e0 => ?_) (fun e0 => ?_)⟩
    · refine no ?_
      have e1 : tx ds = "frame" := V.str.inj (of_decide_eq_true e0)
      unfold okNm
      rw [decide_eq_true e1]
      simp
    have e01 : ¬ tx ds = "frame" := fun z => e0 (decide_eq_true (congrArg V.str z))
    have hk : okNm ds = isNm ds := by
      unfold okNm
      rw [decide_eq_false e01]
      simp
    rw [hk] at no k
    refine ⟨_, rfl, tx ds, rfl, sz16 (by omega), 1, _, rfl, rfl, _, rfl, ite2 (fun e1 => ⟨_, 12, rfl, rfl, _, rfl, ?_⟩) (fun e1 => ⟨false, rfl, ?_⟩)⟩
    · have h1 : 1 ≤ ds.length := by
        have := of_decide_eq_true e1
        omega
      refine ite2 (fun e2 => ?_) (fun e2 => ?_)
      · refine no ?_
        have : ¬ ds.length ≤ 12 := fun z => by
          rw [hlen] at e2
          simp at e2
          omega
        cases ds with
        | nil => rfl
        | cons c r => rw [isNm_cons, decide_eq_false this]; rfl
      · have h12 : ds.length ≤ 12 := by
          rw [hlen] at e2
          simp at e2
          omega
        obtain ⟨c, r, rfl⟩ : ∃ c r, ds = c :: r := by
          cases ds with
          | nil => exact absurd h1 (by decide)
          | cons c r => exact ⟨c, r, rfl⟩
        refine ⟨_, rfl, tx (c :: r), 0, c, rfl, rfl, sz16 (by omega), by rw [tx_list]; exact atI_nat (j := 0) rfl, _, rfl, c, az, rfl, rfl, _, rfl, ite2 (fun e3 => ?_) (fun e3 => ?_)⟩
        · refine no ?_
          have e4 : decide (c ∈ az.cps.toList) = false := by simpa using e3
          unfold isNm
          simp only [e4]
          simp
        · have e4 : c ∈ az.cps.toList := by simpa using e3
          refine ⟨_, rfl, tx (c :: r), rfl, for_it walk_str (fun i σ H2 => ∃ x2, σ = [some (.str (tx (c :: r))), some (.str az), x2] ∧ H2 = H ∧ ∀ x ∈ (c :: r).take i, x ∈ azn.cps.toList) ⟨none, rfl, rfl, fun x hx => by simp at hx⟩ (fun _ _ _ _ _ => trivial) ?_ ?_⟩
          · rintro i x σ H2 H3 hi ⟨x2, rfl, rfl, hin⟩ ⟨rfl, d, hc, rfl⟩
            have hc' : (c :: r)[i]? = some d := by
              have z : ((c :: r).toArray)[i]? = some d := hc
              rw [List.getElem?_toArray] at z
              exact z
            have bad : d ∉ azn.cps.toList → isNm (c :: r) = false := fun hn => by
              rw [isNm_cons]
              have : ((c :: r).all fun x => decide (x ∈ azn.cps.toList)) = false := by
                rw [Bool.eq_false_iff]
                intro z
                exact hn (of_decide_eq_true (List.all_eq_true.mp z d (List.mem_of_getElem? hc')))
              rw [this]
              simp
            have good : d ∈ azn.cps.toList → ∀ x ∈ (c :: r).take (i + 1), x ∈ azn.cps.toList := fun hd x hx => by
              rw [List.take_add_one, hc', Option.toList_some] at hx
              rcases List.mem_append.mp hx with z | z
              · exact hin x z
              · rw [List.mem_singleton.mp z]
                exact hd
            refine ⟨_, rfl, _, rfl, d, az, rfl, rfl, _, rfl, ite2 (fun e5 => ?_) (fun e5 => ?_)⟩
            · have e6 : d ∉ az.cps.toList := by simpa using e5
              refine ⟨_, rfl, d, digs, rfl, rfl, _, rfl, ite2 (fun e7 => ?_) (fun e7 => ?_)⟩
              · have e8 : d ∉ digs.cps.toList := by simpa using e7
                exact no (bad fun z => ((mem_azn d).mp z).elim e6 e8)
              · have e8 : d ∈ digs.cps.toList := by simpa using e7
                exact ⟨_, rfl, rfl, good ((mem_azn d).mpr (.inr e8))⟩
            · have e6 : d ∈ az.cps.toList := by simpa using e5
              exact ⟨_, rfl, rfl, good ((mem_azn d).mpr (.inl e6))⟩
          · rintro σ H2 ⟨x2, rfl, rfl, hin⟩
            have hsz2 : (tx (c :: r)).cps.size = (c :: r).length := tx_len _
            rw [hsz2, List.take_length] at hin
            have e9 : isNm (c :: r) = true := by
              rw [isNm_cons, decide_eq_true h12, decide_eq_true e4]
              show ((c :: r).all fun x => decide (x ∈ azn.cps.toList)) = true
              exact List.all_eq_true.mpr fun x hx => decide_eq_true (hin x hx)
            rw [e9] at k
            exact k
    · refine iteT' rfl (no ?_)
      have : ds.length = 0 := by
        have h : ¬ (1 : Int) ≤ ((tx ds).length : Int) := fun z => e1 (decide_eq_true z)
        omega
      cases ds with
      | nil => rfl
      | cons c r => exact absurd this (by simp)
/-- the law's own list of acts -/
structure ActsM (H : Hp) (m : Addr) (as : List Ac) : Prop where
  at_ : ∃ xs, H m = some (.lst xs) ∧ MAll H xs as
  sz : as.length ≤ 200
theorem ActsM.same {H H' : Hp} {m : Addr} {as : List Ac} (h : ActsM H m as) (k : Same H H') : ActsM H' m as := by
  obtain ⟨⟨xs, h1, h2⟩, h3⟩ := h
  exact ⟨⟨xs, k _ _ h1, h2.kt (.same k)⟩, h3⟩
/-! ### the ends, the options of a name -/
abbrev sLeo : Stmt := top 48
theorem scLeo : FnScope ["_law_model", "_law_word_here", "_law_act_here"] ["_law_model", "_law_word_here"] (defScope sLeo) := ⟨rfl, rfl, rfl, by decide +kernel, rfl, by decide +kernel, by decide +kernel⟩
def spLeo : Sp := fun vs H Q _ => ∃ (m : Addr) (as : List Ac) (z : Str), vs = [.ref m, .str z] ∧ ActsM H m as ∧ (endsOf as z = none → Q .non H) ∧ (∀ lo hi, endsOf as z = some (lo, hi) → ∀ t H', Same H H' → H' t = some (.tup [.int lo, .int hi]) → Q (.ref t) H')
theorem ok_leo (D : Df K mg "_law_ends_of" sLeo ["_law_model", "_law_word_here"]) : FnOk P w K mg base CX0 1 D.f D.fd ["_law_model", "_law_word_here"] spLeo := by
  refine D.fn.ok scLeo (fun vs H Q E h => ?_) (fun cdv A outer s H vs Q E hr h => ?_)
  · obtain ⟨m, as, z, rfl, _⟩ := h
    rfl
  · obtain ⟨m, as, z, rfl, ⟨⟨ys, hM, hR⟩, hsz⟩, kn, k⟩ := h
    refine ⟨_, (pss_cons (ps_for PassesOwn.never rfl (pi_list (pv 0)) (pg_name (i := 2) scLeo.nd rfl (Or.inl rfl))
      (pss_one (ps_if (PW.pt (pw_and (pt_cmpR op_eq (pe_ix (show IxR _ (rIxT K) from ix_tup) (pv 2) pe_int (fun _ _ => rfl)) pe_str (nomark _)) (pw_and1 (pt_cmpR op_eq (pe_ix (show IxR _ (rIxT K) from ix_tup) (pv 2) pe_int (fun _ _ => rfl)) (pv 1) (nomark _)))))
      (pss_one (ps_ret (pe_slice (show SlR _ (rSlT K) from sl_tup) (pv 2) (po_some pe_int) po_none)))
      pss_nil)))
      (pss_one (ps_ret pe_non))), ?_⟩
    have hl := hR.len
    rw [ends_some] at kn
    refine ⟨_, rfl, m, rfl, ⟨_, sql_of hM⟩, ?_⟩
    refine for_list (K := K) (a := m) (xs := ys) (fun i σ H2 => ∃ x2, σ = [some (.ref m), some (.str z), x2] ∧ H2 = H ∧ (as.take i).findSome? (isMe z) = none) ⟨none, rfl, rfl, rfl⟩ (fun i σ H2 _ ⟨_, _, e, _⟩ => by rw [e]; exact sql_of hM) ?_ ?_
    · rintro i y σ H2 hi ⟨x2, rfl, rfl, hno⟩
      obtain ⟨c, hc, hx2⟩ := hR.at_ hi
      obtain ⟨t, ws, rfl, ht, hn⟩ := hx2.lab
      refine ⟨_, rfl, t, _, 0, .str c.lab, rfl, rfl, sql_ofT ht, at0, rfl, _, rfl, ite2 (fun e => ?_) (fun e => ?_)⟩
      · obtain ⟨w', lo, hi', rfl⟩ := lab_me e
        obtain ⟨t', xs', e', h1, rfl⟩ := hx2
        cases e'
        refine ⟨_, rfl, t, _, 1, .str w', rfl, rfl, sql_ofT h1, at1, _, rfl, rfl, _, rfl, ite2 (fun e2 => ?_) (fun e2 => ?_)⟩
        · obtain rfl : w' = z := V.str.inj (of_decide_eq_true e2)
          have he : endsOf as w' = some (lo, hi') := by
            rw [ends_some]
            exact some_take hc hno (if_pos rfl)
          refine ⟨_, rfl, 2, rfl, t, _, rfl, sql_ofT h1, (show ¬ (HT.sIx 4 0 (some 2) = 0 ∧ HT.sIx 4 4 none = 4) by decide), fun q nq => ?_⟩
          exact k lo hi' he q _ (same_upd nq) upd_same
        · exact ⟨_, rfl, rfl, some_snoc hc hno (if_neg fun q => e2 (decide_eq_true (congrArg V.str q)))⟩
      · have hno2 : isMe z c = none := by
          cases c with
          | me w' lo hi' => exact absurd (decide_eq_true rfl) e
          | _ => rfl
        exact ⟨_, rfl, rfl, some_snoc hc hno hno2⟩
    · rintro σ H2 ⟨x2, rfl, rfl, hno⟩
      rw [List.take_of_length_le (by omega)] at hno
      exact kn hno
abbrev sLoo : Stmt := top 49
theorem scLoo : FnScope ["_law_model", "_law_word_here", "_law_act_here"] ["_law_model", "_law_word_here"] (defScope sLoo) := ⟨rfl, rfl, rfl, by decide +kernel, rfl, by decide +kernel, by decide +kernel⟩
def isTu (z : Str) : Ac → Option Int
  | .tu w k => if w = z then some k else none
  | _ => none
theorem opt_some (z : Str) : ∀ as : List Ac, optOf as z = as.findSome? (isTu z)
  | [] => rfl
  | a :: r => by
    have ih := opt_some z r
    unfold optOf at ih ⊢
    rw [List.filterMap_cons, List.findSome?_cons]
    cases a with
    | tu w k =>
      simp only [tuP, isTu, List.find?_cons]
      by_cases e : w = z
      · simp [e]
      · simp only [e, decide_false, if_false]
        exact ih
    | _ => exact ih
def spLoo : Sp := fun vs H Q _ => ∃ (m : Addr) (as : List Ac) (z : Str), vs = [.ref m, .str z] ∧ ActsM H m as ∧ (optOf as z = none → Q .non H) ∧ (∀ k, optOf as z = some k → Q (.int k) H)
theorem ok_loo (D : Df K mg "_law_options_of" sLoo ["_law_model", "_law_word_here"]) : FnOk P w K mg base CX0 1 D.f D.fd ["_law_model", "_law_word_here"] spLoo := by
  refine D.fn.ok scLoo (fun vs H Q E h => ?_) (fun cdv A outer s H vs Q E hr h => ?_)
  · obtain ⟨m, as, z, rfl, _⟩ := h
    rfl
  · obtain ⟨m, as, z, rfl, ⟨⟨ys, hM, hR⟩, hsz⟩, kn, k⟩ := h
    refine ⟨_, (pss_cons (ps_for PassesOwn.never rfl (pi_list (pv 0)) (pg_name (i := 2) scLoo.nd rfl (Or.inl rfl))
      (pss_one (ps_if (PW.pt (pw_and (pt_cmpR op_eq (pe_ix (show IxR _ (rIxT K) from ix_tup) (pv 2) pe_int (fun _ _ => rfl)) pe_str (nomark _)) (pw_and1 (pt_cmpR op_eq (pe_ix (show IxR _ (rIxT K) from ix_tup) (pv 2) pe_int (fun _ _ => rfl)) (pv 1) (nomark _)))))
      (pss_one (ps_ret (pe_ix (show IxR _ (rIxT K) from ix_tup) (pv 2) pe_int (fun _ _ => rfl))))
      pss_nil)))
      (pss_one (ps_ret pe_non))), ?_⟩
    have hl := hR.len
    rw [opt_some] at kn
    refine ⟨_, rfl, m, rfl, ⟨_, sql_of hM⟩, ?_⟩
    refine for_list (K := K) (a := m) (xs := ys) (fun i σ H2 => ∃ x2, σ = [some (.ref m), some (.str z), x2] ∧ H2 = H ∧ (as.take i).findSome? (isTu z) = none) ⟨none, rfl, rfl, rfl⟩ (fun i σ H2 _ ⟨_, _, e, _⟩ => by rw [e]; exact sql_of hM) ?_ ?_
    · rintro i y σ H2 hi ⟨x2, rfl, rfl, hno⟩
      obtain ⟨c, hc, hx2⟩ := hR.at_ hi
      obtain ⟨t, ws, rfl, ht, hn⟩ := hx2.lab
      refine ⟨_, rfl, t, _, 0, .str c.lab, rfl, rfl, sql_ofT ht, at0, rfl, _, rfl, ite2 (fun e => ?_) (fun e => ?_)⟩
      · obtain ⟨w', n', rfl⟩ := lab_tu e
        obtain ⟨t', xs', e', h1, rfl⟩ := hx2
        cases e'
        refine ⟨_, rfl, t, _, 1, .str w', rfl, rfl, sql_ofT h1, at1, _, rfl, rfl, _, rfl, ite2 (fun e2 => ?_) (fun e2 => ?_)⟩
        · obtain rfl : w' = z := V.str.inj (of_decide_eq_true e2)
          have he : optOf as w' = some n' := by
            rw [opt_some]
            exact some_take hc hno (if_pos rfl)
          exact ⟨_, rfl, t, _, 2, .int n', rfl, rfl, sql_ofT h1, rfl, k n' he⟩
        · exact ⟨_, rfl, rfl, some_snoc hc hno (if_neg fun q => e2 (decide_eq_true (congrArg V.str q)))⟩
      · have hno2 : isTu z c = none := by
          cases c with
          | tu w' n' => exact absurd (decide_eq_true rfl) e
          | _ => rfl
        exact ⟨_, rfl, rfl, some_snoc hc hno hno2⟩
    · rintro σ H2 ⟨x2, rfl, rfl, hno⟩
      rw [List.take_of_length_le (by omega)] at hno
      exact kn hno
end
end DO

namespace DO
open PySem PySem.Spec PyProof.Rows L2
section
variable {P : Program} {w : World} {K : PySem.W.Frag} {mg : Str → Option Value} {base : Heap}
/-! ### what is due for a step -/
abbrev sSdu : Stmt := top 50
def DueL (H : Hp) (l : Addr) : Option Er → Prop
  | none => H l = some (.lst [])
  | some e => ∃ q, H l = some (.lst [.ref q]) ∧ H q = some (.tup e.its)
theorem DueL.same {H H' : Hp} {l : Addr} {d : Option Er} (h : DueL H l d) (k : Same H H') : DueL H' l d := by
  cases d with
  | none => exact k _ _ h
  | some e =>
    obtain ⟨q, h1, h2⟩ := h
    exact ⟨q, k _ _ h1, k _ _ h2⟩
theorem mk_due {H : Hp} {q l : Addr} {xs : List V} (e : Er) (he : xs = e.its) (nq : H q = none) (nl : (upd H q (.tup xs)) l = none) : DueL (upd (upd H q (.tup xs)) l (.lst [.ref q])) l (some e) ∧ Same H (upd (upd H q (.tup xs)) l (.lst [.ref q])) ∧ H l = none := by
  subst he
  have s1 := same_upd (o := .tup e.its) nq
  have s2 := same_upd (o := .lst [.ref q]) nl
  exact ⟨⟨q, upd_same, s2 _ _ upd_same⟩, s1.trans s2, s1.free nl⟩
def roomK : List (Key × V) := mergeK [] [(Sum.inr "measure", .int 6), (Sum.inr "turn", .int 3), (Sum.inr "part", .int 6)]
theorem room_get {kd : Str} (h : kd ∈ (["measure", "turn", "part"] : List Str)) : valV roomK (Sum.inr kd : Key) = some (.int (mostN kd)) := by
  simp only [List.mem_cons, List.not_mem_nil, or_false] at h
  rcases h with rfl | rfl | rfl <;> decide +kernel
theorem lab_in {a : Ac} (h : a.isRu = false) : a.lab ∈ (["measure", "turn", "part"] : List Str) := by
  cases a with
  | me w lo hi => exact List.mem_cons_self
  | tu w k => exact List.mem_cons_of_mem _ List.mem_cons_self
  | pa w => exact List.mem_cons_of_mem _ (List.mem_cons_of_mem _ List.mem_cons_self)
  | ru u l n ts ps => cases h
theorem kind_all (kd : Str) : ∀ as : List Ac, (as.filterMap (isLab kd)).length = kindN as kd
  | [] => rfl
  | a :: r => by
    have ih := kind_all kd r
    unfold kindN at ih ⊢
    rw [List.filterMap_cons, List.filter_cons]
    by_cases e : a.lab = kd
    · rw [show isLab kd a = some a from if_pos e, decide_eq_true e]
      show (_ :: _).length = (_ :: _).length
      rw [List.length_cons, List.length_cons, ih]
    · rw [show isLab kd a = none from if_neg e, decide_eq_false e]
      exact ih
theorem scSdu : FnScope ["_law_model", "_law_call_here", "_law_room", "_law_act_here"] ["_law_model", "_law_call_here"] (defScope sSdu) := ⟨rfl, rfl, rfl, by decide +kernel, rfl, by decide +kernel, by decide +kernel⟩
def spSdu : Sp := fun vs H Q _ => ∃ (m t : Addr) (as : List Ac) (a : Ac), vs = [.ref m, .ref t] ∧ ActsM H m as ∧ AcM H (.ref t) a ∧ a.isRu = false ∧ a.nm.cps.toList.length ≤ 900 ∧ ∀ l H', H l = none → Same H H' → DueL H' l (stepDue as a) → Q (.ref l) H'
theorem ok_sdu (D : Df K mg "_law_step_due" sSdu ["_law_model", "_law_call_here"]) (LN : Fk P w K mg base 1 "_law_is_name" sLnm ["_law_word_here"] spLnm) (mln : mg "len" = none) : FnOk P w K mg base CX0 2 D.f D.fd ["_law_model", "_law_call_here"] spSdu := by
  refine D.fn.ok scSdu (fun vs H Q E h => ?_) (fun cdv A outer s H vs Q E hr h => ?_)
  · obtain ⟨m, t, as, a, rfl, _⟩ := h
    rfl
  · obtain ⟨m, t, as, a, rfl, hMM, ha, hno, hnz, k⟩ := h
    have hu := hu_of hr
    refine ⟨_, (pss_cons (ps_set (i := 2) scSdu.nd rfl (.inl rfl) (pe_disp (pps_cons pe_str pe_int (pps_cons pe_str pe_int (pps_cons pe_str pe_int pps_nil))) (by rfl) (by rfl) (fun z => by cases z) (by decide)))
      (pss_cons (ps_if (pt_not (pt_val (pe_call LN.G (hr.mono (by decide)) (by rfl) LN.D.mgf LN.D.fn.kp LN.D.bd .nil pass0 (pa_cons (pe_ix (show IxR _ (rIxT K) from ix_tup) (pv 1) pe_int (fun _ _ => rfl)) pa_nil))))
      (pss_one (ps_ret (pe_lst (pa_cons (pe_tup (pa_cons pe_str (pa_cons (pe_ix (show IxR _ (rIxT K) from ix_tup) (pv 1) pe_int (fun _ _ => rfl)) pa_nil))) pa_nil))))
      pss_nil)
      (pss_cons (ps_if (pt_cmpR (show OpR _ _ (rIn K false) from op_in_seq) (pe_ix (show IxR _ (rIxT K) from ix_tup) (pv 1) pe_int (fun _ _ => rfl)) (pe_lc (own := [("_law_act_here", 3)]) (g := gName 3) (tt := _) rfl scSdu.nd (pi_list (pv 0)) (blkOk_by (N := ["_law_model", "_law_call_here", "_law_room", "_law_act_here"]) (sc := defScope sSdu) (by decide +kernel)) (fun _ _ _ _ _ => pg_name (i := 3) scSdu.nd rfl (Or.inl rfl)) (fun _ _ _ _ _ => pts_one (pt_cmpR op_ne (pe_ix (show IxR _ (rIxT K) from ix_tup) (pv 3) pe_int (fun _ _ => rfl)) pe_str (nomark _))) (fun _ _ _ _ _ => (pe_ix (show IxR _ (rIxT K) from ix_tup) (pv 3) pe_int (fun _ _ => rfl)))) rfl)
      (pss_one (ps_ret (pe_lst (pa_cons (pe_tup (pa_cons pe_str (pa_cons (pe_ix (show IxR _ (rIxT K) from ix_tup) (pv 1) pe_int (fun _ _ => rfl)) pa_nil))) pa_nil))))
      pss_nil)
      (pss_cons (ps_if (PW.pt (pw_and (pt_cmpR op_eq (pe_ix (show IxR _ (rIxT K) from ix_tup) (pv 1) pe_int (fun _ _ => rfl)) pe_str (nomark _)) (pw_and1 (pt_cmpR op_gt (pe_ix (show IxR _ (rIxT K) from ix_tup) (pv 1) pe_int (fun _ _ => rfl)) (pe_ix (show IxR _ (rIxT K) from ix_tup) (pv 1) pe_int (fun _ _ => rfl)) (nomark _)))))
      (pss_one (ps_ret (pe_lst (pa_cons (pe_tup (pa_cons pe_str (pa_cons (pe_ix (show IxR _ (rIxT K) from ix_tup) (pv 1) pe_int (fun _ _ => rfl)) (pa_cons (pe_ix (show IxR _ (rIxT K) from ix_tup) (pv 1) pe_int (fun _ _ => rfl)) pa_nil)))) pa_nil))))
      pss_nil)
      (pss_cons (ps_if (PW.pt (pw_and (pt_cmpR op_eq (pe_ix (show IxR _ (rIxT K) from ix_tup) (pv 1) pe_int (fun _ _ => rfl)) pe_str (nomark _)) (pw_and1 (pt_cmpR op_lt (pe_ix (show IxR _ (rIxT K) from ix_tup) (pv 1) pe_int (fun _ _ => rfl)) pe_int (nomark _)))))
      (pss_one (ps_ret (pe_lst (pa_cons (pe_tup (pa_cons pe_str (pa_cons (pe_ix (show IxR _ (rIxT K) from ix_tup) (pv 1) pe_int (fun _ _ => rfl)) pa_nil))) pa_nil))))
      pss_nil)
      (pss_cons (ps_if (pt_cmpR op_ge (pe_callB call_len_seq (by rfl) mln PySem.boot_len (pa_cons (pe_lc (own := [("_law_act_here", 3)]) (g := gName 3) (tt := _) rfl scSdu.nd (pi_list (pv 0)) (blkOk_by (N := ["_law_model", "_law_call_here", "_law_room", "_law_act_here"]) (sc := defScope sSdu) (by decide +kernel)) (fun _ _ _ _ _ => pg_name (i := 3) scSdu.nd rfl (Or.inl rfl)) (fun _ _ _ _ _ => pts_one (pt_cmpR op_eq (pe_ix (show IxR _ (rIxT K) from ix_tup) (pv 3) pe_int (fun _ _ => rfl)) (pe_ix (show IxR _ (rIxT K) from ix_tup) (pv 1) pe_int (fun _ _ => rfl)) (nomark _))) (fun _ _ _ _ _ => (pv 3))) pa_nil)) (pe_dget hu (pv 2) (pe_ix (show IxR _ (rIxT K) from ix_tup) (pv 1) pe_int (fun _ _ => rfl)) (fun _ _ => rfl)) (nomark _))
      (pss_one (ps_ret (pe_lst (pa_cons (pe_tup (pa_cons pe_str (pa_cons (pe_ix (show IxR _ (rIxT K) from ix_tup) (pv 1) pe_int (fun _ _ => rfl)) pa_nil))) pa_nil))))
      pss_nil)
      (pss_one (ps_ret (pe_lst pa_nil))))))))), ?_⟩
    intro R nR
    refine ⟨upd_same, [(Sum.inr "measure", .int 6), (Sum.inr "turn", .int 3), (Sum.inr "part", .int 6)], rfl, (by decide), ?_⟩
    rw [upd_upd]
    have hRm : (upd H R (.dK roomK)) R = some (.dK roomK) := upd_same
    have s0 := same_upd (o := .dK roomK) nR
    show tSeq _ _ _ _ (upd H R (.dK roomK))
    generalize (upd H R (.dK roomK)) = H0 at hRm s0
    obtain ⟨⟨ys, hM, hR⟩, hsz⟩ := hMM.same s0
    have ha0 := ha.kt (.same s0)
    have hl := hR.len
    obtain ⟨t', xs, e', ht, hx⟩ := ha0.lab
    cases e'
    obtain ⟨xs, rfl⟩ := hx hno
    refine ⟨_, rfl, t, _, 1, .str a.nm, rfl, rfl, sql_ofT ht, at1, a.nm, rfl, hnz, _, rfl, ?_⟩
    have due : ∀ (e : Er) (q l : Addr) (H1 : Hp) (zs : List V), stepDue as a = some e → Same H0 H1 → zs = e.its → H1 q = none → (upd H1 q (.tup zs)) l = none → Q (.ref l) (upd (upd H1 q (.tup zs)) l (.lst [.ref q])) := fun e q l H1 zs he s1 hz nq nl => by
      obtain ⟨d1, d2, d3⟩ := mk_due e hz nq nl
      have s01 := s0.trans s1
      refine k l _ (s01.free d3) (s01.trans d2) ?_
      rw [he]
      exact d1
    refine ite2 (fun e => ?_) (fun e => ?_)
    · have hk : okS a.nm = false := by simpa using e
      have hd : stepDue as a = some (.nam 0 a.nm) := by
        unfold stepDue nameDue
        rw [hk]
        rfl
      exact ⟨_, rfl, t, _, 1, .str a.nm, rfl, rfl, sql_ofT ht, at1, (by show 2 ≤ sizeLine; decide), fun q nq => ⟨(by show 1 ≤ sizeLine; decide), fun l nl => due _ q l H0 _ hd (.refl _) rfl nq nl⟩⟩
    have hk : okS a.nm = true := by simpa using e
    refine ⟨_, rfl, t, _, 1, .str a.nm, rfl, rfl, sql_ofT ht, at1, _, rfl, m, rfl, ⟨_, sql_of hM⟩, fun E1 nE => ?_⟩
    refine lc_pick walk_list as (fun c => (noRu c).map Ac.nm) (fun _ v (y : Str) => v = .str y) (fun _ _ _ _ _ z => z) nE (fun H2 s2 => sql_of (s2 _ _ hM)) hl (by omega) (fun i x c H2 Yes No hx hc s2 hY hN => ?_) (fun H2 zs hE hZ s2 => ?_)
    · obtain ⟨c', hc', hxc⟩ := hR.at_ hx
      obtain rfl : c' = c := Option.some.inj (hc'.symm.trans hc)
      obtain ⟨t1, ws, rfl, ht1, hn⟩ := (hxc.kt (.same s2)).lab
      refine ⟨rfl, _, rfl, t1, _, 0, .str c'.lab, rfl, rfl, sql_ofT ht1, at0, rfl, _, rfl, ite2 (fun e => ?_) (fun e => ?_)⟩
      · have hnr := ne_ru e
        obtain ⟨ys2, rfl⟩ := hn (noRu_some hnr).2
        exact ⟨_, rfl, t1, _, 1, .str c'.nm, rfl, rfl, sql_ofT ht1, at1, hY _ _ _ (by show (noRu c').map Ac.nm = _; rw [hnr]; rfl) (.refl _) rfl⟩
      · exact hN _ (by show (noRu c').map Ac.nm = _; rw [eq_ru e]; rfl) (.refl _)
    have hZ2 : zs = (namesOf as).map V.str := by
      refine strs_of (H := H2) (as := stepsOf as) ?_
      unfold stepsOf
      rw [List.map_filterMap]
      exact hZ
    subst hZ2
    have ht2 := s2 _ _ ht
    refine ⟨E1, _, rfl, .inl (sql_of hE), rfl, flat_strs _, _, rfl, ?_⟩
    rw [if_neg Bool.false_ne_true, inV_str]
    show (if taken as a.nm = true then _ else _)
    refine ite2 (fun e1 => ?_) (fun e1 => ?_)
    · have hd : stepDue as a = some (.nam 1 a.nm) := by
        unfold stepDue nameDue
        rw [hk, if_pos rfl, if_pos e1]
      exact ⟨_, rfl, t, _, 1, .str a.nm, rfl, rfl, sql_ofT ht2, at1, (by show 2 ≤ sizeLine; decide), fun q nq => ⟨(by show 1 ≤ sizeLine; decide), fun l nl => due _ q l H2 _ hd s2 rfl nq nl⟩⟩
    have hnd : nameDue as a.nm = none := by
      unfold nameDue
      rw [hk, if_pos rfl, if_neg e1]
    have hM2 := s2 _ _ hM
    cases a with
    | ru u l n ts ps => cases hno
    | me w lo hi =>
      obtain ⟨t2, ws2, e2, h2, rfl⟩ := ha0.kt (.same s2)
      cases e2
      refine ⟨_, rfl, t, _, 0, .str "measure", rfl, rfl, sql_ofT h2, at0, rfl, _, rfl, iteT' (by decide) ?_⟩
      refine ⟨_, rfl, t, _, 2, .int lo, rfl, rfl, sql_ofT h2, rfl, _, rfl, t, _, 3, .int hi, rfl, rfl, sql_ofT h2, rfl, _, _, rfl, rfl, _, rfl, ite2 (fun e3 => ?_) (fun e3 => ?_)⟩
      · have e4 : lo > hi := of_decide_eq_true e3
        have hd : stepDue as (.me w lo hi) = some (.ends lo hi) := by
          unfold stepDue
          rw [hnd]
          exact if_pos e4
        exact ⟨_, rfl, t, _, 2, .int lo, rfl, rfl, sql_ofT h2, rfl, _, rfl, t, _, 3, .int hi, rfl, rfl, sql_ofT h2, rfl, (by show 3 ≤ sizeLine; decide), fun q nq => ⟨(by show 1 ≤ sizeLine; decide), fun l nl => due _ q l H2 _ hd s2 rfl nq nl⟩⟩
      have hsd : stepDue as (.me w lo hi) = roomDue as "measure" := by
        unfold stepDue
        rw [hnd]
        exact if_neg fun z => e3 (decide_eq_true z)
      refine ⟨_, rfl, t, _, 0, .str "measure", rfl, rfl, sql_ofT h2, at0, rfl, _, rfl, iteF' (by decide) ?_⟩
      refine ⟨_, rfl, m, rfl, ⟨_, sql_of hM2⟩, fun E2 nE2 => ?_⟩
      refine lc_pick walk_list as (isLab "measure") (fun _ _ _ => True) (fun _ _ _ _ _ z => z) nE2 (fun H3 s3 => sql_of (s3 _ _ hM2)) hl (by omega) (fun i x c H3 Yes No hx hc s3 hY hN => ?_) (fun H3 zs hE2 hZ2 s3 => ?_)
      · obtain ⟨c', hc', hxc⟩ := hR.at_ hx
        obtain rfl : c' = c := Option.some.inj (hc'.symm.trans hc)
        obtain ⟨t1, ws, rfl, ht1, hn⟩ := (hxc.kt (.same (s2.trans s3))).lab
        refine ⟨rfl, _, rfl, t1, _, 0, .str c'.lab, rfl, rfl, sql_ofT ht1, at0, _, rfl, t, _, 0, .str "measure", rfl, rfl, sql_ofT (s3 _ _ ht2), at0, rfl, _, rfl, ite2 (fun e => ?_) (fun e => ?_)⟩
        · exact ⟨_, rfl, hY _ _ _ (if_pos (V.str.inj (of_decide_eq_true e))) (.refl _) trivial⟩
        · exact hN _ (if_neg fun z => e (decide_eq_true (congrArg V.str z))) (.refl _)
      have hln : (zs.length : Int) = kindN as "measure" := by rw [hZ2.len, kind_all]
      have ht3 := s3 _ _ ht2
      have s03 := s2.trans s3
      have hRm3 := s03 _ _ hRm
      refine ⟨_, _, rfl, .inl (sql_of hE2), _, rfl, _, rfl, t, _, 0, .str "measure", rfl, rfl, sql_ofT ht3, at0, R, .int (mostN "measure"), rfl, by rw [← room_get (kd := "measure") (by decide)]; exact DGet.k (k := Sum.inr (Str.ofString "measure")) hRm3, ?_⟩
      rw [hln]
      refine ⟨_, _, rfl, rfl, _, rfl, ite2 (fun e4 => ?_) (fun e4 => ?_)⟩
      · have e5 : (kindN as "measure" : Int) ≥ mostN "measure" := of_decide_eq_true e4
        exact ⟨_, rfl, t, _, 0, .str "measure", rfl, rfl, sql_ofT ht3, at0, (by show 2 ≤ sizeLine; decide), fun q nq => ⟨(by show 1 ≤ sizeLine; decide), fun l nl => due (.ful "measure") q l H3 _ (by rw [hsd]; exact if_pos e5) s03 rfl nq nl⟩⟩
      · have e5 : ¬ (kindN as "measure" : Int) ≥ mostN "measure" := fun z => e4 (decide_eq_true z)
        refine ⟨(by show 0 ≤ sizeLine; decide), fun l nl => ?_⟩
        have s0l := (s0.trans s03)
        refine k l _ (s0l.free nl) (s0l.trans (same_upd nl)) ?_
        rw [hsd, show roomDue as "measure" = none from if_neg e5]
        exact upd_same

    | tu w n0 =>
      obtain ⟨t2, ws2, e2, h2, rfl⟩ := ha0.kt (.same s2)
      cases e2
      refine ⟨_, rfl, t, _, 0, .str "turn", rfl, rfl, sql_ofT h2, at0, rfl, _, rfl, iteF' (by decide) ?_⟩
      refine ⟨_, rfl, t, _, 0, .str "turn", rfl, rfl, sql_ofT h2, at0, rfl, _, rfl, iteT' (by decide) ?_⟩
      refine ⟨_, rfl, t, _, 2, .int n0, rfl, rfl, sql_ofT h2, rfl, _, _, rfl, rfl, _, rfl, ite2 (fun e3 => ?_) (fun e3 => ?_)⟩
      · have e4 : n0 < 1 := of_decide_eq_true e3
        have hd : stepDue as (.tu w n0) = some (.cnt n0) := by
          unfold stepDue
          rw [hnd]
          exact if_pos e4
        exact ⟨_, rfl, t, _, 2, .int n0, rfl, rfl, sql_ofT h2, rfl, (by show 2 ≤ sizeLine; decide), fun q nq => ⟨(by show 1 ≤ sizeLine; decide), fun l nl => due _ q l H2 _ hd s2 rfl nq nl⟩⟩
      have hsd : stepDue as (.tu w n0) = roomDue as "turn" := by
        unfold stepDue
        rw [hnd]
        exact if_neg fun z => e3 (decide_eq_true z)
      refine ⟨_, rfl, m, rfl, ⟨_, sql_of hM2⟩, fun E2 nE2 => ?_⟩
      refine lc_pick walk_list as (isLab "turn") (fun _ _ _ => True) (fun _ _ _ _ _ z => z) nE2 (fun H3 s3 => sql_of (s3 _ _ hM2)) hl (by omega) (fun i x c H3 Yes No hx hc s3 hY hN => ?_) (fun H3 zs hE2 hZ2 s3 => ?_)
      · obtain ⟨c', hc', hxc⟩ := hR.at_ hx
        obtain rfl : c' = c := Option.some.inj (hc'.symm.trans hc)
        obtain ⟨t1, ws, rfl, ht1, hn⟩ := (hxc.kt (.same (s2.trans s3))).lab
        refine ⟨rfl, _, rfl, t1, _, 0, .str c'.lab, rfl, rfl, sql_ofT ht1, at0, _, rfl, t, _, 0, .str "turn", rfl, rfl, sql_ofT (s3 _ _ ht2), at0, rfl, _, rfl, ite2 (fun e => ?_) (fun e => ?_)⟩
        · exact ⟨_, rfl, hY _ _ _ (if_pos (V.str.inj (of_decide_eq_true e))) (.refl _) trivial⟩
        · exact hN _ (if_neg fun z => e (decide_eq_true (congrArg V.str z))) (.refl _)
      have hln : (zs.length : Int) = kindN as "turn" := by rw [hZ2.len, kind_all]
      have ht3 := s3 _ _ ht2
      have s03 := s2.trans s3
      have hRm3 := s03 _ _ hRm
      refine ⟨_, _, rfl, .inl (sql_of hE2), _, rfl, _, rfl, t, _, 0, .str "turn", rfl, rfl, sql_ofT ht3, at0, R, .int (mostN "turn"), rfl, by rw [← room_get (kd := "turn") (by decide)]; exact DGet.k (k := Sum.inr (Str.ofString "turn")) hRm3, ?_⟩
      rw [hln]
      refine ⟨_, _, rfl, rfl, _, rfl, ite2 (fun e4 => ?_) (fun e4 => ?_)⟩
      · have e5 : (kindN as "turn" : Int) ≥ mostN "turn" := of_decide_eq_true e4
        exact ⟨_, rfl, t, _, 0, .str "turn", rfl, rfl, sql_ofT ht3, at0, (by show 2 ≤ sizeLine; decide), fun q nq => ⟨(by show 1 ≤ sizeLine; decide), fun l nl => due (.ful "turn") q l H3 _ (by rw [hsd]; exact if_pos e5) s03 rfl nq nl⟩⟩
      · have e5 : ¬ (kindN as "turn" : Int) ≥ mostN "turn" := fun z => e4 (decide_eq_true z)
        refine ⟨(by show 0 ≤ sizeLine; decide), fun l nl => ?_⟩
        have s0l := (s0.trans s03)
        refine k l _ (s0l.free nl) (s0l.trans (same_upd nl)) ?_
        rw [hsd, show roomDue as "turn" = none from if_neg e5]
        exact upd_same

    | pa w =>
      obtain ⟨t2, ws2, e2, h2, rfl⟩ := ha0.kt (.same s2)
      cases e2
      refine ⟨_, rfl, t, _, 0, .str "part", rfl, rfl, sql_ofT h2, at0, rfl, _, rfl, iteF' (by decide) ?_⟩
      refine ⟨_, rfl, t, _, 0, .str "part", rfl, rfl, sql_ofT h2, at0, rfl, _, rfl, iteF' (by decide) ?_⟩
      have hsd : stepDue as (.pa w) = roomDue as "part" := by
        unfold stepDue
        rw [hnd]
      refine ⟨_, rfl, m, rfl, ⟨_, sql_of hM2⟩, fun E2 nE2 => ?_⟩
      refine lc_pick walk_list as (isLab "part") (fun _ _ _ => True) (fun _ _ _ _ _ z => z) nE2 (fun H3 s3 => sql_of (s3 _ _ hM2)) hl (by omega) (fun i x c H3 Yes No hx hc s3 hY hN => ?_) (fun H3 zs hE2 hZ2 s3 => ?_)
      · obtain ⟨c', hc', hxc⟩ := hR.at_ hx
        obtain rfl : c' = c := Option.some.inj (hc'.symm.trans hc)
        obtain ⟨t1, ws, rfl, ht1, hn⟩ := (hxc.kt (.same (s2.trans s3))).lab
        refine ⟨rfl, _, rfl, t1, _, 0, .str c'.lab, rfl, rfl, sql_ofT ht1, at0, _, rfl, t, _, 0, .str "part", rfl, rfl, sql_ofT (s3 _ _ ht2), at0, rfl, _, rfl, ite2 (fun e => ?_) (fun e => ?_)⟩
        · exact ⟨_, rfl, hY _ _ _ (if_pos (V.str.inj (of_decide_eq_true e))) (.refl _) trivial⟩
        · exact hN _ (if_neg fun z => e (decide_eq_true (congrArg V.str z))) (.refl _)
      have hln : (zs.length : Int) = kindN as "part" := by rw [hZ2.len, kind_all]
      have ht3 := s3 _ _ ht2
      have s03 := s2.trans s3
      have hRm3 := s03 _ _ hRm
      refine ⟨_, _, rfl, .inl (sql_of hE2), _, rfl, _, rfl, t, _, 0, .str "part", rfl, rfl, sql_ofT ht3, at0, R, .int (mostN "part"), rfl, by rw [← room_get (kd := "part") (by decide)]; exact DGet.k (k := Sum.inr (Str.ofString "part")) hRm3, ?_⟩
      rw [hln]
      refine ⟨_, _, rfl, rfl, _, rfl, ite2 (fun e4 => ?_) (fun e4 => ?_)⟩
      · have e5 : (kindN as "part" : Int) ≥ mostN "part" := of_decide_eq_true e4
        exact ⟨_, rfl, t, _, 0, .str "part", rfl, rfl, sql_ofT ht3, at0, (by show 2 ≤ sizeLine; decide), fun q nq => ⟨(by show 1 ≤ sizeLine; decide), fun l nl => due (.ful "part") q l H3 _ (by rw [hsd]; exact if_pos e5) s03 rfl nq nl⟩⟩
      · have e5 : ¬ (kindN as "part" : Int) ≥ mostN "part" := fun z => e4 (decide_eq_true z)
        refine ⟨(by show 0 ≤ sizeLine; decide), fun l nl => ?_⟩
        have s0l := (s0.trans s03)
        refine k l _ (s0l.free nl) (s0l.trans (same_upd nl)) ?_
        rw [hsd, show roomDue as "part" = none from if_neg e5]
        exact upd_same

end
end DO

namespace DO
open PySem PySem.Spec PyProof.Rows L2
section
variable {P : Program} {w : World} {K : PySem.W.Frag} {mg : Str → Option Value} {base : Heap}
/-! ### what is due for a rule -/
abbrev sRdu : Stmt := top 51
/-- a call of rule as the law writes it down -/
structure CallRu (C : Addr) (H : Hp) (t : Addr) (u l : Str) (x : V) (n : Int) (ts : List Tm) (ps : List (Str × Int)) (wv : Addr) : Prop where
  at_ : ∃ m pl us, H t = some (.tup [.str "rule", .str u, .str l, x, .ref m, .ref pl, .ref wv]) ∧ ModF H m n ts ∧ H pl = some (.lst us) ∧ PAll H us ps
  op : Opd C H x n ts
  wh : ∃ us, (H wv = some (.lst us) ∨ H wv = some (.tup us)) ∧ PAll H us ps
theorem ActsM.kp {S : Addr} {H H' : Hp} {m : Addr} {as : List Ac} {xs : List V} (h : ActsM H m as) (k : Kp S H H') (hS : H S = some (.lst xs)) (ne : m ≠ S) : ActsM H' m as := by
  obtain ⟨⟨ys, h1, h2⟩, h3⟩ := h
  exact ⟨⟨ys, k _ _ h1 ne, h2.kt (.kp k hS)⟩, h3⟩
theorem drop_at {γ : Type} {l : List γ} {i : Nat} {x : γ} (h : l[i]? = some x) : l.drop i = x :: l.drop (i + 1) := by
  rw [List.drop_eq_getElem_cons (List.getElem?_eq_some_iff.mp h).1, (List.getElem?_eq_some_iff.mp h).2]
theorem whenRun_cons (as : List Ac) (seen : List Str) (p : Str × Int) (r : List (Str × Int)) : whenRun as seen (p :: r) = match whenBad as seen p with
    | some e => some e
    | none => whenRun as (seen ++ [p.1]) r := rfl
theorem rules_len : ∀ as : List Ac, (as.filterMap fun a => if a.isRu = true then some a else none).length = (rulesOf as).length := fun _ => rfl
theorem scRdu : FnScope ["_law_model", "_law_call_here", "_law_parts", "_law_act_here", "_law_word_here", "_law_times", "_law_floor", "_law_roof", "_law_seen", "_law_number_here"] ["_law_model", "_law_call_here"] (defScope sRdu) := ⟨rfl, rfl, rfl, by decide +kernel, rfl, by decide +kernel, by decide +kernel⟩
def spRdu (C : Addr) : Sp := fun vs H Q _ => ∃ (m t wv : Addr) (as : List Ac) (u l : Str) (x : V) (n : Int) (ts : List Tm) (ps : List (Str × Int)), vs = [.ref m, .ref t] ∧ ActsM H m as ∧ CallRu C H t u l x n ts ps wv ∧ ts.length ≤ 900 ∧ ps.length ≤ 900 ∧ ∀ l' H', H l' = none → Same H H' → DueL H' l' (ruleDue as u l ts ps) → Q (.ref l') H'
theorem ok_rdu {C : Addr} (D : Df K mg "_law_rule_due" sRdu ["_law_model", "_law_call_here"]) (LE : Fk P w K mg base 1 "_law_ends_of" sLeo ["_law_model", "_law_word_here"] spLeo) (LO : Fk P w K mg base 1 "_law_options_of" sLoo ["_law_model", "_law_word_here"] spLoo) (mln : mg "len" = none) : FnOk P w K mg base CX0 2 D.f D.fd ["_law_model", "_law_call_here"] (spRdu C) := by
  refine D.fn.ok scRdu (fun vs H Q E h => ?_) (fun cdv A outer s H vs Q E hr h => ?_)
  · obtain ⟨m, t, wv, as, u, l, x, n, ts, ps, rfl, _⟩ := h
    rfl
  · obtain ⟨m, t, wv, as, u, l, x, n, ts, ps, rfl, hMM, ⟨⟨mf, pl, us, ht, hmf, hpl, hps⟩, hop, hwh⟩, htz, hpz, k⟩ := h
    have hu := hu_of hr
    refine ⟨_, (pss_cons (ps_set (i := 2) scRdu.nd rfl (.inl rfl) (pe_op op_cat (pe_lst (pa_cons pe_str pa_nil)) (pe_lc (own := [("_law_act_here", 3)]) (g := gName 3) (tt := _) rfl scRdu.nd (pi_list (pv 0)) (blkOk_by (N := ["_law_model", "_law_call_here", "_law_parts", "_law_act_here", "_law_word_here", "_law_times", "_law_floor", "_law_roof", "_law_seen", "_law_number_here"]) (sc := defScope sRdu) (by decide +kernel)) (fun _ _ _ _ _ => pg_name (i := 3) scRdu.nd rfl (Or.inl rfl)) (fun _ _ _ _ _ => pts_one (pt_cmpR op_eq (pe_ix (show IxR _ (rIxT K) from ix_tup) (pv 3) pe_int (fun _ _ => rfl)) pe_str (nomark _))) (fun _ _ _ _ _ => (pe_ix (show IxR _ (rIxT K) from ix_tup) (pv 3) pe_int (fun _ _ => rfl)))))) (pss_cons (ps_for PassesOwn.never rfl (pi_list (pe_lst (pa_cons (pe_ix (show IxR _ (rIxT K) from ix_tup) (pv 1) pe_int (fun _ _ => rfl)) (pa_cons (pe_ix (show IxR _ (rIxT K) from ix_tup) (pv 1) pe_int (fun _ _ => rfl)) pa_nil)))) (pg_name (i := 4) scRdu.nd rfl (Or.inl rfl))
      (pss_one (ps_if (pt_cmpR (show OpR _ _ (rIn K true) from op_notIn_seq) (pv 4) (pv 2) rfl)
      (pss_one (ps_ret (pe_lst (pa_cons (pe_tup (pa_cons pe_str (pa_cons (pv 4) pa_nil))) pa_nil))))
      pss_nil))) (pss_cons (ps_if (pt_cmpR op_eq (pe_ix (show IxR _ (rIxT K) from ix_tup) (pv 1) pe_int (fun _ _ => rfl)) (pe_ix (show IxR _ (rIxT K) from ix_tup) (pv 1) pe_int (fun _ _ => rfl)) (nomark _))
      (pss_one (ps_ret (pe_lst (pa_cons (pe_tup (pa_cons pe_str (pa_cons (pe_ix (show IxR _ (rIxT K) from ix_tup) (pv 1) pe_int (fun _ _ => rfl)) pa_nil))) pa_nil))))
      pss_nil) (pss_cons (ps_for PassesOwn.never rfl (pi_tup (pe_ix (show IxR _ (rIxT K) from ix_tup) (pe_ix (show IxR _ (rIxT K) from ix_tup) (pv 1) pe_int (fun _ _ => rfl)) pe_int (fun _ _ => rfl))) (pg_tup rfl (pgs_cons (pg_name (i := 4) scRdu.nd rfl (Or.inl rfl)) (pgs_cons (pg_name (i := 5) scRdu.nd rfl (Or.inl rfl)) (pgs_cons (pg_name (i := 6) scRdu.nd rfl (Or.inl rfl)) (pgs_cons (pg_name (i := 7) scRdu.nd rfl (Or.inl rfl)) pgs_nil)))))
      (pss_cons (ps_if (pt_cmp (pc_isN (pe_call LE.G (hr.mono (by decide)) (by rfl) LE.D.mgf LE.D.fn.kp LE.D.bd .nil pass0 (pa_cons (pv 0) (pa_cons (pv 4) pa_nil)))))
      (pss_one (ps_ret (pe_lst (pa_cons (pe_tup (pa_cons pe_str (pa_cons (pv 4) pa_nil))) pa_nil))))
      pss_nil)
      (pss_one (ps_if (pt_cmpR (op_neD hr.units) (pe_call LE.G (hr.mono (by decide)) (by rfl) LE.D.mgf LE.D.fn.kp LE.D.bd .nil pass0 (pa_cons (pv 0) (pa_cons (pv 4) pa_nil))) (pe_tup (pa_cons (pv 6) (pa_cons (pv 7) pa_nil))) (nomark _))
      (pss_one (ps_ret (pe_lst (pa_cons (pe_tup (pa_cons pe_str (pa_cons (pv 4) pa_nil))) pa_nil))))
      pss_nil)))) (pss_cons (ps_set (i := 8) scRdu.nd rfl (.inl rfl) (pe_lst pa_nil)) (pss_cons (ps_for PassesOwn.never rfl (pi_list (pe_ix (show IxR _ (rIxT K) from ix_tup) (pv 1) pe_int (fun _ _ => rfl))) (pg_tup rfl (pgs_cons (pg_name (i := 4) scRdu.nd rfl (Or.inl rfl)) (pgs_cons (pg_name (i := 9) scRdu.nd rfl (Or.inl rfl)) pgs_nil)))
      (pss_cons (ps_if (pt_cmp (pc_isN (pe_call LO.G (hr.mono (by decide)) (by rfl) LO.D.mgf LO.D.fn.kp LO.D.bd .nil pass0 (pa_cons (pv 0) (pa_cons (pv 4) pa_nil)))))
      (pss_one (ps_ret (pe_lst (pa_cons (pe_tup (pa_cons pe_str (pa_cons (pv 4) pa_nil))) pa_nil))))
      pss_nil)
      (pss_cons (ps_if (pt_cmpR (show OpR _ _ (rIn K false) from op_in_seq) (pv 4) (pv 8) rfl)
      (pss_one (ps_ret (pe_lst (pa_cons (pe_tup (pa_cons pe_str (pa_cons (pv 4) pa_nil))) pa_nil))))
      pss_nil)
      (pss_cons (ps_if (pt_not (pt_chain op_le op_lt pe_int (pv 9) (pe_call LO.G (hr.mono (by decide)) (by rfl) LO.D.mgf LO.D.fn.kp LO.D.bd .nil pass0 (pa_cons (pv 0) (pa_cons (pv 4) pa_nil)))))
      (pss_one (ps_ret (pe_lst (pa_cons (pe_tup (pa_cons pe_str (pa_cons (pv 4) (pa_cons (pv 9) pa_nil)))) pa_nil))))
      pss_nil)
      (pss_one (ps_expr (pe_bm PySem.F.plainAttrs_list PySem.F.slot_list_append PySem.F.type_list_append mt_append (pv 8) (pa_cons (pv 4) pa_nil)))))))) (pss_cons (ps_if (pt_cmpR op_ge (pe_callB call_len_seq (by rfl) mln PySem.boot_len (pa_cons (pe_lc (own := [("_law_act_here", 3)]) (g := gName 3) (tt := _) rfl scRdu.nd (pi_list (pv 0)) (blkOk_by (N := ["_law_model", "_law_call_here", "_law_parts", "_law_act_here", "_law_word_here", "_law_times", "_law_floor", "_law_roof", "_law_seen", "_law_number_here"]) (sc := defScope sRdu) (by decide +kernel)) (fun _ _ _ _ _ => pg_name (i := 3) scRdu.nd rfl (Or.inl rfl)) (fun _ _ _ _ _ => pts_one (pt_cmpR op_eq (pe_ix (show IxR _ (rIxT K) from ix_tup) (pv 3) pe_int (fun _ _ => rfl)) pe_str (nomark _))) (fun _ _ _ _ _ => (pv 3))) pa_nil)) pe_int (nomark _))
      (pss_one (ps_ret (pe_lst (pa_cons (pe_tup (pa_cons pe_str (pa_cons pe_str pa_nil))) pa_nil))))
      pss_nil) (pss_one (ps_ret (pe_lst pa_nil)))))))))), ?_⟩
    have due : ∀ (e : Er) (q l' : Addr) (H1 : Hp) (zs : List V), ruleDue as u l ts ps = some e → Same H H1 → zs = e.its → H1 q = none → (upd H1 q (.tup zs)) l' = none → Q (.ref l') (upd (upd H1 q (.tup zs)) l' (.lst [.ref q])) := fun e q l' H1 zs he s1 hz nq nl => by
      obtain ⟨d1, d2, d3⟩ := mk_due e hz nq nl
      refine k l' _ (s1.free d3) (s1.trans d2) ?_
      rw [he]
      exact d1
    have hsz2 := hMM.sz
    refine ⟨(by show 1 ≤ sizeLine; decide), fun q0 nq0 => ?_⟩
    have s0 := same_upd (o := .lst [V.str "frame"]) nq0
    have hq0 : (upd H q0 (.lst [V.str "frame"])) q0 = some (.lst [V.str "frame"]) := upd_same
    generalize (upd H q0 (.lst [V.str "frame"])) = H0 at s0 hq0
    obtain ⟨⟨ys, hM, hR⟩, hsz⟩ := hMM.same s0
    have hl := hR.len
    refine ⟨_, rfl, m, rfl, ⟨_, sql_of hM⟩, fun E1 nE => ?_⟩
    refine lc_pick walk_list as paP (fun _ v z => v = .str z) (fun _ _ _ _ _ z => z) nE (fun H2 s2 => sql_of (s2 _ _ hM)) hl (by omega) (fun i x c H2 Yes No hx hc s2 hY hN => ?_) (fun H2 zs hE hZ s2 => ?_)
    · obtain ⟨c', hc', hxc⟩ := hR.at_ hx
      obtain rfl : c' = c := Option.some.inj (hc'.symm.trans hc)
      have hx2 := hxc.kt (.same s2)
      obtain ⟨t1, ws, rfl, ht1, hn⟩ := hx2.lab
      refine ⟨rfl, _, rfl, t1, _, 0, .str c'.lab, rfl, rfl, sql_ofT ht1, at0, rfl, _, rfl, ite2 (fun e => ?_) (fun e => ?_)⟩
      · obtain ⟨w', rfl⟩ := lab_pa e
        obtain ⟨t', xs', e', h1, rfl⟩ := hx2
        cases e'
        exact ⟨_, rfl, t1, _, 1, .str w', rfl, rfl, sql_ofT h1, at1, hY _ _ w' rfl (.refl _) rfl⟩
      · exact hN _ (not_pa e) (.refl _)
    obtain rfl := strs_list (H := H2) hZ
    have s12 := s0.trans s2
    have hpl2 : (as.filterMap paP).length ≤ 200 := Nat.le_trans (List.length_filterMap_le _ _) hsz
    refine ⟨q0, E1, _, _, rfl, rfl, s2 _ _ hq0, hE, (by rw [List.length_map]; exact sz16 (by show 1 + _ ≤ 1000; omega)), fun R nR => ?_⟩
    have hRp : (upd H2 R (.lst ([V.str "frame"] ++ (as.filterMap paP).map V.str))) R = some (.lst ((partsOf as).map V.str)) := upd_same
    have s13 := s12.trans (same_upd (o := .lst ([V.str "frame"] ++ (as.filterMap paP).map V.str)) nR)
    generalize (upd H2 R (.lst ([V.str "frame"] ++ (as.filterMap paP).map V.str))) = H3 at hRp s13
    have ht3 := s13 _ _ ht
    refine ⟨_, rfl, t, _, 1, .str u, rfl, rfl, sql_ofT ht3, rfl, _, rfl, t, _, 2, .str l, rfl, rfl, sql_ofT ht3, rfl, (by show 2 ≤ sizeLine; decide), fun tq ntq => ?_⟩
    have sq := same_upd (o := .lst [V.str u, V.str l]) ntq
    have htq : (upd H3 tq (.lst [V.str u, V.str l])) tq = some (.lst [V.str u, V.str l]) := upd_same
    have hRp4 := sq _ _ hRp
    have s14 := s13.trans sq
    generalize (upd H3 tq (.lst [V.str u, V.str l])) = H4 at sq htq hRp4 s14
    have ht4 := s14 _ _ ht
    refine ⟨tq, rfl, ⟨_, sql_of htq⟩, for_list (K := K) (a := tq) (xs := [V.str u, V.str l]) (fun i σ H5 => ∃ x4, σ = [some (.ref m), some (.ref t), some (.ref R), none, x4, none, none, none, none, none] ∧ H5 = H4 ∧ (1 ≤ i → u ∈ partsOf as) ∧ (2 ≤ i → l ∈ partsOf as)) ⟨none, rfl, rfl, fun z => absurd z (by decide), fun z => absurd z (by decide)⟩ (fun i σ H5 _ ⟨_, _, e, _⟩ => by rw [e]; exact sql_of htq) ?_ ?_⟩
    · rintro i y σ H5 hi ⟨x4, rfl, rfl, i1, i2⟩
      have hi2 : i < 2 := (List.getElem?_eq_some_iff.mp hi).1
      have hcase : (i = 0 ∧ y = .str u) ∨ (i = 1 ∧ y = .str l) := by
        have : i = 0 ∨ i = 1 := by omega
        rcases this with rfl | rfl
        · exact .inl ⟨rfl, (Option.some.inj hi).symm⟩
        · exact .inr ⟨rfl, (Option.some.inj hi).symm⟩
      rcases hcase with ⟨rfl, rfl⟩ | ⟨rfl, rfl⟩
      · refine ⟨_, rfl, _, rfl, R, _, rfl, .inl (sql_of hRp4), rfl, flat_strs _, _, rfl, ?_⟩
        rw [if_pos rfl, inV_str]
        refine ite2 (fun e => ?_) (fun e => ?_)
        · have e1 : u ∉ partsOf as := by simpa using e
          exact ⟨_, rfl, (by show 2 ≤ sizeLine; decide), fun q nq => ⟨(by show 1 ≤ sizeLine; decide), fun l' nl => due (.nam 2 u) q l' H5 _ (by unfold ruleDue; rw [if_pos e1]) s14 rfl nq nl⟩⟩
        · have e1 : u ∈ partsOf as := by simpa using e
          exact ⟨_, rfl, rfl, fun _ => e1, fun z => absurd z (by decide)⟩
      · have hup := i1 (Nat.le_refl _)
        refine ⟨_, rfl, _, rfl, R, _, rfl, .inl (sql_of hRp4), rfl, flat_strs _, _, rfl, ?_⟩
        rw [if_pos rfl, inV_str]
        refine ite2 (fun e => ?_) (fun e => ?_)
        · have e1 : l ∉ partsOf as := by simpa using e
          exact ⟨_, rfl, (by show 2 ≤ sizeLine; decide), fun q nq => ⟨(by show 1 ≤ sizeLine; decide), fun l' nl => due (.nam 2 l) q l' H5 _ (by unfold ruleDue; rw [if_neg (fun z => z hup), if_pos e1]) s14 rfl nq nl⟩⟩
        · have e1 : l ∈ partsOf as := by simpa using e
          exact ⟨_, rfl, rfl, fun _ => hup, fun _ => e1⟩
    rintro σ H5 ⟨x4, rfl, rfl, i1, i2⟩
    have hup := i1 (by show 1 ≤ 2; decide)
    have hlp := i2 (Nat.le_refl _)
    have rd0 : ruleDue as u l ts ps = if u = l then some (.nam 4 u) else match measDue as ts with
      | some e => some e
      | none => match whenDue as ps with
        | some e => some e
        | none => if (rulesOf as).length ≥ 80 then some (.ful "rule") else none := by
      unfold ruleDue
      rw [if_neg (fun z => z hup), if_neg (fun z => z hlp)]
      all_goals rfl
    refine ⟨_, rfl, t, _, 1, .str u, rfl, rfl, sql_ofT ht4, rfl, _, rfl, t, _, 2, .str l, rfl, rfl, sql_ofT ht4, rfl, rfl, _, rfl, ite2 (fun e => ?_) (fun e => ?_)⟩
    · have e1 : u = l := V.str.inj (of_decide_eq_true e)
      exact ⟨_, rfl, t, _, 1, .str u, rfl, rfl, sql_ofT ht4, rfl, (by show 2 ≤ sizeLine; decide), fun q nq => ⟨(by show 1 ≤ sizeLine; decide), fun l' nl => due (.nam 4 u) q l' H5 _ (by rw [rd0, if_pos e1]) s14 rfl nq nl⟩⟩
    have e1 : ¬ u = l := fun z => e (decide_eq_true (congrArg V.str z))
    rw [if_neg e1] at rd0
    obtain ⟨tt, fs, hm1, hm2, hm3⟩ := hmf.kt (.same s14)
    have hfl := hm3.len
    have hMM4 := hMM.same s14
    have hps4 := hps.kt (.same s14)
    have hpl4 := s14 _ _ hpl
    refine ⟨_, rfl, t, _, 4, .ref mf, rfl, rfl, sql_ofT ht4, rfl, mf, _, 1, .ref tt, rfl, rfl, sql_ofT hm1, rfl, tt, rfl, ⟨fs, sql_ofT hm2⟩, ?_⟩
    refine for_tup (K := K) (a := tt) (xs := fs) (fun i σ H6 => ∃ x4 x5 x6 x7, σ = [some (.ref m), some (.ref t), some (.ref R), none, x4, x5, x6, x7, none, none] ∧ Same H5 H6 ∧ (ts.take i).findSome? (measBad as) = none) ⟨_, none, none, none, rfl, .refl _, rfl⟩ (fun i σ H6 _ ⟨_, _, _, _, _, z, _⟩ => sql_ofT (z _ _ hm2)) ?_ ?_
    · rintro i y σ H6 hi ⟨x4', x5, x6, x7, rfl, s6, hff⟩
      obtain ⟨tm, q, hu', rfl, hq⟩ := hm3.at_ hi
      have s16 := s14.trans s6
      refine ⟨q, _, rfl, sql_ofT (s6 _ _ hq), rfl, _, _, rfl, _, _, rfl, _, _, rfl, _, _, rfl, rfl, ?_⟩
      refine ⟨_, rfl, _, rfl, m, as, tm.nm, rfl, hMM4.same s6, fun he => ?_, fun lo hi2 he z H7 s7 hz => ?_⟩
      · refine ⟨true, rfl, iteT' rfl ?_⟩
        have hb : measBad as tm = some (.nam 2 tm.nm) := by unfold measBad; rw [he]
        have hd := some_take hu' hff hb
        exact ⟨_, rfl, (by show 2 ≤ sizeLine; decide), fun q nq => ⟨(by show 1 ≤ sizeLine; decide), fun l' nl => due (.nam 2 tm.nm) q l' H6 _ (by rw [rd0, show measDue as ts = _ from hd]) s16 rfl nq nl⟩⟩
      · refine ⟨false, rfl, iteF' rfl ?_⟩
        have s17 := s16.trans s7
        refine ⟨_, rfl, _, rfl, m, as, tm.nm, rfl, (hMM4.same s6).same s7, fun he2 => ?_, fun lo2 hi3 he2 z2 H8 s8 hz2 => ?_⟩
        · rw [he] at he2
          cases he2
        rw [he] at he2
        cases he2
        refine ⟨_, rfl, _, rfl, (by show 2 ≤ sizeLine; decide), fun e2 ne2 => ?_⟩
        have sz := same_upd (o := .tup [V.int tm.lo, V.int tm.hi]) ne2
        refine ⟨enD lo hi2, enD tm.lo tm.hi, dp_en (sz _ _ hz2), dp_en upd_same, sh_en _ _, sh_en _ _, _, rfl, ?_⟩
        rw [eqv_en]
        have s18 := (s17.trans s8).trans sz
        refine ite2 (fun e => ?_) (fun e => ?_)
        · have hb : measBad as tm = some (.nam 3 tm.nm) := by
            unfold measBad
            rw [he]
            have : ¬ ((lo, hi2) = (tm.lo, tm.hi)) := fun z => by rw [decide_eq_true z] at e; cases e
            exact if_neg this
          have hd := some_take hu' hff hb
          exact ⟨_, rfl, (by show 2 ≤ sizeLine; decide), fun q nq => ⟨(by show 1 ≤ sizeLine; decide), fun l' nl => due (.nam 3 tm.nm) q l' _ _ (by rw [rd0, show measDue as ts = _ from hd]) s18 rfl nq nl⟩⟩
        · have hb : measBad as tm = none := by
            unfold measBad
            rw [he]
            have : (lo, hi2) = (tm.lo, tm.hi) := by
              refine Classical.byContradiction fun z => e ?_
              rw [decide_eq_false z]
              rfl
            exact if_pos this
          exact ⟨_, _, _, _, rfl, ((s6.trans s7).trans s8).trans sz, some_snoc hu' hff hb⟩
    rintro σ H6 ⟨x4', x5, x6, x7, rfl, s6, hff⟩
    rw [List.take_of_length_le (by omega)] at hff
    have hmd : measDue as ts = none := hff
    rw [hmd] at rd0
    have s16 := s14.trans s6
    refine ⟨(by show 0 ≤ sizeLine; decide), fun S nS => ?_⟩
    have sS := same_upd (o := .lst []) nS
    have hS : (upd H6 S (.lst [])) S = some (.lst []) := upd_same
    have s17 := s16.trans sS
    generalize (upd H6 S (.lst [])) = H7 at sS hS s17
    have s67 := s6.trans sS
    have ht7 := s67 _ _ ht4
    have hpl7 := s67 _ _ hpl4
    have hps7 := hps4.kt (.same s67)
    have hMM7 := hMM4.same s67
    have hSpl : S ≠ pl := (ne_of_none ((s14.trans s6) _ _ hpl) nS).symm
    have hSm : S ≠ m := by
      obtain ⟨⟨ym, hym, _⟩, _⟩ := hMM4.same s6
      exact (ne_of_none hym nS).symm
    have hpsl := hps.len
    refine ⟨_, rfl, t, _, 5, .ref pl, rfl, rfl, sql_ofT ht7, rfl, pl, rfl, ⟨us, sql_of hpl7⟩, ?_⟩
    refine for_list (K := K) (a := pl) (xs := us) (fun i σ H8 => ∃ x4 x9, σ = [some (.ref m), some (.ref t), some (.ref R), none, x4, x5, x6, x7, some (.ref S), x9] ∧ H8 S = some (.lst (((ps.take i).map (·.1)).map V.str)) ∧ Kp S H7 H8 ∧ whenDue as ps = whenRun as ((ps.take i).map (·.1)) (ps.drop i)) ⟨_, none, rfl, hS, Kp.refl, rfl⟩ (fun i σ H8 _ ⟨_, _, _, _, z, _⟩ => sql_of (z _ _ hpl7 hSpl.symm)) ?_ ?_
    · rintro i y σ H8 hi ⟨x4'', x9, rfl, hS8, kp8, hrun⟩
      obtain ⟨pr, hpr, q, rfl, hq⟩ := hps7.at_ hi
      have hil : i < us.length := (List.getElem?_eq_some_iff.mp hi).1
      have kt8 := Kt.kp kp8 hS
      have hq8 := kt8.tup _ _ hq
      have hMM8 := hMM7.kp kp8 hS hSm.symm
      have s18 : Same H H8 := fun b o eb => kp8 _ _ (s17 _ _ eb) (ne_of_none (s16 _ _ eb) nS)
      have htk : ps.take (i + 1) = ps.take i ++ [pr] := by rw [List.take_add_one, hpr, Option.toList_some]
      rw [drop_at hpr, whenRun_cons] at hrun
      have bad : ∀ (e : Er) (q l' : Addr) (H1 : Hp) (zs : List V), whenBad as ((ps.take i).map (·.1)) pr = some e → Same H8 H1 → zs = e.its → H1 q = none → (upd H1 q (.tup zs)) l' = none → Q (.ref l') (upd (upd H1 q (.tup zs)) l' (.lst [.ref q])) := fun e q l' H1 zs he s1 hz nq nl => by
        rw [he] at hrun
        have hd : whenDue as ps = some e := hrun
        refine due e q l' H1 zs ?_ (s18.trans s1) hz nq nl
        rw [rd0]
        show (match whenDue as ps with | some e => some e | none => _) = _
        rw [hd]
      refine ⟨q, _, rfl, sql_ofT hq8, rfl, _, _, rfl, _, _, rfl, rfl, ?_⟩
      refine ⟨_, rfl, _, rfl, m, as, pr.1, rfl, hMM8, fun he => ?_, fun cc he => ?_⟩
      · refine ⟨true, rfl, iteT' rfl ?_⟩
        have hb : whenBad as ((ps.take i).map (·.1)) pr = some (.nam 2 pr.1) := by unfold whenBad; rw [he]
        exact ⟨_, rfl, (by show 2 ≤ sizeLine; decide), fun q nq => ⟨(by show 1 ≤ sizeLine; decide), fun l' nl => bad (.nam 2 pr.1) q l' H8 _ hb (.refl _) rfl nq nl⟩⟩
      refine ⟨false, rfl, iteF' rfl ?_⟩
      refine ⟨_, rfl, _, rfl, S, _, rfl, .inl (sql_of hS8), rfl, flat_strs _, _, rfl, ?_⟩
      rw [if_neg Bool.false_ne_true, inV_str]
      refine ite2 (fun e => ?_) (fun e => ?_)
      · have hb : whenBad as ((ps.take i).map (·.1)) pr = some (.nam 5 pr.1) := by unfold whenBad; rw [he]; exact if_pos (of_decide_eq_true e)
        exact ⟨_, rfl, (by show 2 ≤ sizeLine; decide), fun q nq => ⟨(by show 1 ≤ sizeLine; decide), fun l' nl => bad (.nam 5 pr.1) q l' H8 _ hb (.refl _) rfl nq nl⟩⟩
      have hns : pr.1 ∉ (ps.take i).map (·.1) := fun z => e (decide_eq_true z)
      have badopt : ¬ (0 ≤ pr.2 ∧ pr.2 < cc) → whenBad as ((ps.take i).map (·.1)) pr = some (.opt pr.1 pr.2) := fun z => by
        unfold whenBad
        rw [he]
        show (if pr.1 ∈ (ps.take i).map (·.1) then _ else _) = _
        rw [if_neg hns, if_neg z]
      refine ⟨_, rfl, _, _, rfl, rfl, _, rfl, ite2 (fun c1 => ?_) (fun c1 => ?_)⟩
      · refine ⟨_, rfl, _, rfl, m, as, pr.1, rfl, hMM8, fun he2 => ?_, fun cc2 he2 => ?_⟩
        · rw [he] at he2
          cases he2
        rw [he] at he2
        cases he2
        refine ⟨_, _, rfl, rfl, _, rfl, ite2 (fun c2 => ?_) (fun c2 => ?_)⟩
        · have hb := badopt fun z => by
            have : ¬ pr.2 < cc := by simpa using c2
            exact this z.2
          exact ⟨_, rfl, _, rfl, (by show 3 ≤ sizeLine; decide), fun q nq => ⟨(by show 1 ≤ sizeLine; decide), fun l' nl => bad (.opt pr.1 pr.2) q l' H8 _ hb (.refl _) rfl nq nl⟩⟩
        · have z1 : 0 ≤ pr.2 := of_decide_eq_true c1
          have z2 : pr.2 < cc := by simpa using c2
          have hb : whenBad as ((ps.take i).map (·.1)) pr = none := by
            unfold whenBad
            rw [he]
            show (if pr.1 ∈ (ps.take i).map (·.1) then _ else _) = _
            rw [if_neg hns, if_pos ⟨z1, z2⟩]
          refine ⟨_, rfl, .inl ⟨rfl, _, sql_of hS8⟩, _, rfl, S, _, _, rfl, rfl, hS8, (by rw [List.length_map, List.length_map, List.length_take]; exact small1000 (by omega)), ?_⟩
          refine ⟨_, _, rfl, ?_, kp8.trans Kp.upd, ?_⟩
          · rw [upd_same, htk, List.map_append, List.map_append]
            rfl
          · rw [hrun, hb, htk, List.map_append]
            rfl
      · have hb := badopt fun z => c1 (decide_eq_true z.1)
        refine ⟨false, rfl, ?_⟩
        exact ⟨_, rfl, _, rfl, (by show 3 ≤ sizeLine; decide), fun q nq => ⟨(by show 1 ≤ sizeLine; decide), fun l' nl => bad (.opt pr.1 pr.2) q l' H8 _ hb (.refl _) rfl nq nl⟩⟩
    rintro σ H8 ⟨x4'', x9, rfl, hS8, kp8, hrun⟩
    have s18 : Same H H8 := fun b o eb => kp8 _ _ (s17 _ _ eb) (ne_of_none (s16 _ _ eb) nS)
    rw [List.drop_of_length_le (by omega)] at hrun
    have hwd : whenDue as ps = none := hrun
    have rd1 : ruleDue as u l ts ps = if (rulesOf as).length ≥ 80 then some (.ful "rule") else none := by
      rw [rd0]
      show (match whenDue as ps with | some e => some e | none => _) = _
      rw [hwd]
    obtain ⟨⟨ys8, hM8, hR8⟩, _⟩ := hMM.same s18
    have hl8 := hR8.len
    refine ⟨_, rfl, m, rfl, ⟨_, sql_of hM8⟩, fun E2 nE2 => ?_⟩
    refine lc_pick walk_list as aRu (fun _ _ _ => True) (fun _ _ _ _ _ z => z) nE2 (fun H3 s3 => sql_of (s3 _ _ hM8)) hl8 (by omega) (fun i x c H3 Yes No hx hc s3 hY hN => ?_) (fun H9 zs hE2 hZ2 s9 => ?_)
    · obtain ⟨c', hc', hxc⟩ := hR8.at_ hx
      obtain rfl : c' = c := Option.some.inj (hc'.symm.trans hc)
      obtain ⟨t1, ws, rfl, ht1, hn⟩ := (hxc.kt (.same s3)).lab
      refine ⟨rfl, _, rfl, t1, _, 0, .str c'.lab, rfl, rfl, sql_ofT ht1, at0, rfl, _, rfl, ite2 (fun e => ?_) (fun e => ?_)⟩
      · exact ⟨_, rfl, hY _ _ _ (is_ru e) (.refl _) trivial⟩
      · exact hN _ (not_ru e) (.refl _)
    have hln : zs.length = (rulesOf as).length := hZ2.len
    refine ⟨_, _, rfl, .inl (sql_of hE2), _, _, rfl, rfl, _, rfl, ?_⟩
    rw [hln]
    refine ite2 (fun e4 => ?_) (fun e4 => ?_)
    · have e5 : (rulesOf as).length ≥ 80 := by
        have : ((rulesOf as).length : Int) ≥ 80 := of_decide_eq_true e4
        omega
      exact ⟨(by show 2 ≤ sizeLine; decide), fun q nq => ⟨(by show 1 ≤ sizeLine; decide), fun l' nl => due (.ful "rule") q l' H9 _ (by rw [rd1, if_pos e5]) (s18.trans s9) rfl nq nl⟩⟩
    · have e5 : ¬ (rulesOf as).length ≥ 80 := fun z => e4 (decide_eq_true (by omega))
      refine ⟨(by show 0 ≤ sizeLine; decide), fun l' nl => ?_⟩
      have s19 := s18.trans s9
      refine k l' _ (s19.free nl) (s19.trans (same_upd nl)) ?_
      rw [rd1, if_neg e5]
      exact upd_same
end
end DO

namespace DO
open PySem PySem.Spec PyProof.Rows L2 HotX
/-! ### walking and unpacking while an exception is handled -/
section
variable {prog : Program} {w : World} {A : Around} {E : Value → Shared → Prop} {s : Shared}
theorem next_tuple_endH {it t x1 : Addr} {i : Nat} {items} {Q : Option Value → Shared → Prop} (hot : HotAt A x1 s.heap)
    (hit : IsTupIter s.heap it t i) (ht : IsTup s.heap t items) (hx : items[i]? = none)
    (hQ : ∀ h', Heap.ExtBut it s.heap h' → Q none { s with heap := h' }) : wpAny (model prog w) A (pyNext (.ref it)) Q E s := by
  obtain ⟨o, ho, hc, hd⟩ := id hit
  obtain ⟨ol, hol, _, nl, hdl⟩ := ht
  obtain ⟨hh, o1, vs1, h1, d1, c1⟩ := hot
  have nx : x1 ≠ it := fun e => by
    subst e
    rw [ho] at h1
    cases h1
    rw [hd] at d1
    cases d1
    simp at c1
  unfold pyNext
  refine wpAny_bind (wpAny_attempt (wpAny_callSpecial?_slot (name := Str.ofString "__next__") hit.typeIs slot_tupleiter_next
    (wpAny_call_entry slot_tupleiter_next hit.typeIs entry_tupleiter_next ?_ (args_tupleiter_next _))))
  show wpAny _ _ (field (.ref it) 0 >>= _) _ _ s
  refine wpAny_bind (wpAny_field ho hd (x := .ref t) rfl ?_)
  show wpAny _ _ (if (Value.ref t == Value.none) = true then _ else _) _ _ s
  rw [if_neg (show ¬ ((Value.ref t == Value.none) = true) from Bool.false_ne_true)]
  show wpAny _ _ (field (.ref it) 1 >>= _) _ _ s
  refine wpAny_bind (wpAny_field ho hd (x := .int i 0) rfl ?_)
  show wpAny _ _ (seqItems? (.ref t) >>= _) _ _ s
  refine wpAny_bind (wpAny_seqItems hol hdl ?_)
  simp only [Int.toNat_natCast, hx]
  refine wpAny_bind (wpAny_rule (wpAny_bind (wpAny_setField ho hd (by simp) ?_)))
  show wpAny _ _ (newExc (.type "StopIteration") [] >>= _) _ _ _
  have hs1 : ∀ b u, b ≠ it → s.heap.get? b = some u → (s.heap.update it (Obj.mapFields (·.setIfInBounds 0 Value.none))).get? b = some u := fun b u hb e => by rw [Heap.get?_update_other _ _ hb.symm]; exact e
  refine wpAny_bind ?_
  simp only [newExc, newTuple]
  refine wpAny_bind (wpAny_newObj_type ?_ (by size_fits))
  refine wpAny_bind (m := firstArgMember _ _) (wpAny_of_eq (a := Value.none) (by first | rfl | (simp only [firstArgMember]; rfl)) ?_)
  refine wpAny_newObj_type ?_ (by size_fits)
  refine raiseNew_hot ⟨hh, o1, vs1, Heap.get?_push_of_some _ (Heap.get?_push_of_some _ (hs1 _ _ nx h1)), d1, c1⟩ (Nat.ne_of_lt (Heap.lt_size (Heap.get?_push_of_some _ (hs1 _ _ nx h1)))) (Heap.get?_push_size _ rfl) rfl (by first | (simp; done) | (simp; omega) | (simp only [Array.size_append]; simp; omega)) ?_
  refine wpAny_bind (wpAny_isInstance (T := "StopIteration") (b := true) ⟨_, Heap.get?_update_self _ (Heap.get?_push_size _ rfl) rfl, rfl⟩ isSubtype_stop ?_)
  refine wpAny_pure (hQ _ fun b u hb e => ?_)
  rw [Heap.get?_update_other _ _ (Nat.ne_of_gt (Heap.lt_size (Heap.get?_push_of_some _ (hs1 _ _ hb e))))]
  exact Heap.get?_push_of_some _ (Heap.get?_push_of_some _ (hs1 _ _ hb e))
theorem next_list_endH {it t x1 : Addr} {i : Nat} {items} {Q : Option Value → Shared → Prop} (hot : HotAt A x1 s.heap)
    (hit : s.heap.IsListIter it t i) (ht : s.heap.IsList t items) (hx : items[i]? = none)
    (hQ : ∀ h', Heap.ExtBut it s.heap h' → Q none { s with heap := h' }) : wpAny (model prog w) A (pyNext (.ref it)) Q E s := by
  obtain ⟨o, ho, hc, hd⟩ := id hit
  obtain ⟨ol, hol, _, nl, hdl⟩ := ht
  obtain ⟨hh, o1, vs1, h1, d1, c1⟩ := hot
  have nx : x1 ≠ it := fun e => by
    subst e
    rw [ho] at h1
    cases h1
    rw [hd] at d1
    cases d1
    simp at c1
  unfold pyNext
  refine wpAny_bind (wpAny_attempt (wpAny_callSpecial?_slot (name := Str.ofString "__next__") hit.typeIs slot_listiter_next
    (wpAny_call_entry slot_listiter_next hit.typeIs entry_listiter_next ?_ (args_listiter_next _))))
  show wpAny _ _ (field (.ref it) 0 >>= _) _ _ s
  refine wpAny_bind (wpAny_field ho hd (x := .ref t) rfl ?_)
  show wpAny _ _ (if (Value.ref t == Value.none) = true then _ else _) _ _ s
  rw [if_neg (show ¬ ((Value.ref t == Value.none) = true) from Bool.false_ne_true)]
  show wpAny _ _ (field (.ref it) 1 >>= _) _ _ s
  refine wpAny_bind (wpAny_field ho hd (x := .int i 0) rfl ?_)
  show wpAny _ _ (seqItems? (.ref t) >>= _) _ _ s
  refine wpAny_bind (wpAny_seqItems hol hdl ?_)
  simp only [Int.toNat_natCast, hx]
  refine wpAny_bind (wpAny_rule (wpAny_bind (wpAny_setField ho hd (by simp) ?_)))
  show wpAny _ _ (newExc (.type "StopIteration") [] >>= _) _ _ _
  have hs1 : ∀ b u, b ≠ it → s.heap.get? b = some u → (s.heap.update it (Obj.mapFields (·.setIfInBounds 0 Value.none))).get? b = some u := fun b u hb e => by rw [Heap.get?_update_other _ _ hb.symm]; exact e
  refine wpAny_bind ?_
  simp only [newExc, newTuple]
  refine wpAny_bind (wpAny_newObj_type ?_ (by size_fits))
  refine wpAny_bind (m := firstArgMember _ _) (wpAny_of_eq (a := Value.none) (by first | rfl | (simp only [firstArgMember]; rfl)) ?_)
  refine wpAny_newObj_type ?_ (by size_fits)
  refine raiseNew_hot ⟨hh, o1, vs1, Heap.get?_push_of_some _ (Heap.get?_push_of_some _ (hs1 _ _ nx h1)), d1, c1⟩ (Nat.ne_of_lt (Heap.lt_size (Heap.get?_push_of_some _ (hs1 _ _ nx h1)))) (Heap.get?_push_size _ rfl) rfl (by first | (simp; done) | (simp; omega) | (simp only [Array.size_append]; simp; omega)) ?_
  refine wpAny_bind (wpAny_isInstance (T := "StopIteration") (b := true) ⟨_, Heap.get?_update_self _ (Heap.get?_push_size _ rfl) rfl, rfl⟩ isSubtype_stop ?_)
  refine wpAny_pure (hQ _ fun b u hb e => ?_)
  rw [Heap.get?_update_other _ _ (Nat.ne_of_gt (Heap.lt_size (Heap.get?_push_of_some _ (hs1 _ _ hb e))))]
  exact Heap.get?_push_of_some _ (Heap.get?_push_of_some _ (hs1 _ _ hb e))
theorem unpackItems_tupleH {t x1 : Addr} {items : Array Value} {Q : List Value → Shared → Prop} (hot : HotAt A x1 s.heap) (ht : IsTup s.heap t items)
    (hQ : ∀ h', Heap.ExtBut s.heap.objs.size s.heap h' → Q items.toList { s with heap := h' }) : wpAny (model prog w) A (unpackItems (.ref t) items.size none) Q E s := by
  have hlt : t ≠ s.heap.objs.size := by obtain ⟨o, ho, _⟩ := ht; exact Nat.ne_of_lt (Heap.lt_size ho)
  obtain ⟨hh, o1, vs1, h1, d1, c1⟩ := hot
  have hx1 : x1 ≠ s.heap.objs.size := Nat.ne_of_lt (Heap.lt_size h1)
  unfold unpackItems
  refine wpAny_bind ?_
  · unfold notIterableAtAll
    refine wpAny_bind (wpAny_specialOf ht.typeIs slot_tuple_iter.lookup ?_)
    refine wpAny_pure ?_
    simp only [Bool.false_eq_true, if_false]
    refine wpAny_bind (wpAny_holding (iter_tuple ht ?_))
    refine wpAny_bind (wpAny_holding (draw_tuple hlt items.size 0 _ _ ⟨_, Heap.get?_push_size _ rfl, rfl, rfl⟩ (ht.push _) (by omega) fun h₁ hit₁ hs₁ => ?_))
    have hall : List.take items.size (List.drop 0 items.toList) = items.toList := by
      rw [List.drop_zero]; exact List.take_of_length_le (by simp)
    rw [hall]
    rw [if_neg (by simp)]
    have ht₁ : IsTup h₁ t items := (ht.push _).extBut hs₁.extBut hlt
    have hot₁ : HotAt A x1 h₁ := ⟨hh, o1, vs1, hs₁.extBut x1 o1 hx1 (Heap.get?_push_of_some _ h1), d1, c1⟩
    refine wpAny_bind (wpAny_holding (next_tuple_endH (s := { s with heap := h₁ }) hot₁ hit₁ ht₁ (by simp) fun h₂ he₂ => ?_))
    simp only [Option.isSome_none, Bool.false_eq_true, if_false]
    refine wpAny_pure (hQ h₂ fun b o hb e => he₂ b o hb (hs₁.extBut b o hb (Heap.get?_push_of_some _ e)))
theorem assign_TupleH {env : Env} {elts : List Expr} {k} {pos : Pos} {t x1 : Addr} {items : Array Value} {Q : Unit → Shared → Prop} (hot : HotAt A x1 s.heap) (ht : IsTup s.heap t items)
    (hn : (assignEach elts env).length = items.size) (hstar : (assignEach elts env).findIdx? (·.1) = none)
    (h : ∀ h', Heap.ExtBut s.heap.objs.size s.heap h' → wpAny (model prog w) A (assignInOrder ((assignEach elts env).map (·.2)) items.toList) Q E { s with heap := h' }) :
    wpAny (model prog w) A (assign (.Tuple elts k pos) env (.ref t)) Q E s := by
  rw [assign_Tuple]
  refine wpAny_bind (wpAny_standAt ?_)
  unfold unpack
  rw [hn, hstar]
  exact wpAny_bind (wpAny_holding (unpackItems_tupleH hot ht h))
end
section
variable {X : Cx}
theorem pg_tupH {es : List Expr} {k : Nat} {pos : Pos} {t : TGs} {n : Nat} (hc : L2H.HotC X) (h : PGs X es t)
    (hn : (assignEach es X.env).length = n := by rfl) (hst : (assignEach es X.env).findIdx? (·.1) = none := by rfl) : PG X (.Tuple es k pos) (gTup X.K n t) := by
  refine ⟨fun pins s σ H v u Q I r hw => ?_⟩
  obtain ⟨a, xs, e1, hq, hl, hw⟩ := hw
  subst e1
  cases r
  obtain ⟨its, rv, ht, hz⟩ := I.tuple hq
  obtain ⟨x1, hot⟩ := hc.at I
  refine assign_TupleH hot ht (by simp [hn, ← hl, rv.length]) hst fun h' hx => ?_
  have I1 : Inv X pins σ H { s with heap := h' } := I.kept (t' := s.toks) fun b o e => hx b o (Nat.ne_of_lt (Heap.lt_size e)) e
  exact h.run pins _ σ H xs _ Q I1 (by simpa using rv) hw
theorem turn_listH {P : Program} {w : World} {K : PySem.W.Frag} {tg : Expr} (a it : Addr) : L2H.TurnH P w K tg (Itl K a) [it] it (fun i h => h.IsListIter it a i) where
  mem := by simp
  obj := fun i h st b hb => by
    have e : b = it := by simpa using hb
    subst e
    obtain ⟨o, e, c, d⟩ := st
    exact ⟨o, e, fun v z => by rw [d] at z; cases z⟩
  keep := fun i h h' st k => st.at fun o e => k it (by simp) o e
  item := by
    intro X hP hw hK hc i pins s σ H E I hf st hg
    subst hP hw hK
    obtain ⟨xs, x, hq, hx⟩ := hg
    obtain ⟨its, rv, p, hz⟩ := I.list hq
    obtain ⟨u, hu, ru⟩ := rv.get hx
    obtain ⟨f0, f1, f2, f3, f4, f5⟩ := hf it (by simp)
    refine wpAny_pyNext_list_item st p.isList (x := u) (by simpa using hu) fun h' st' sb => ?_
    have I1 : Inv X pins σ H { s with heap := h' } := I.turned (t' := s.toks) (fun b o hb e => (sb.2 b hb).trans e) f0 f1 f3 f4 f5
    obtain ⟨o, e, c, d⟩ := id st'
    exact ⟨u, rfl, go_of (s := { s with heap := h' }) e c d (by decide) ⟨x, H, I1, ru, ⟨rfl, fun ys hy => by rw [I.list_inj hy hq]; exact hx⟩, st', fun b hb => (hf b hb).1⟩⟩
  done := by
    intro X hP hw hK hc i pins s σ H E I hf st hg
    subst hP hw hK
    obtain ⟨xs, hq, hx⟩ := hg
    obtain ⟨its, rv, p, hz⟩ := I.list hq
    obtain ⟨f0, f1, f2, f3, f4, f5⟩ := hf it (by simp)
    have hl := rv.length
    obtain ⟨x1, hot⟩ := hc.at I
    exact next_list_endH hot st p.isList (by simp; omega) fun h' eb => ⟨rfl, I.turned (t' := s.toks) (fun b o hb e => eb b o hb e) f0 f1 f3 f4 f5⟩
  self := fun _ _ _ _ _ st h => wpAny_pyIter_listiter st h
theorem pi_listH {tg l : Expr} {tl : TE} (hl : PE X l tl) : L2H.PIH X tg l (iList X.K tl) := by
  refine ⟨fun pins s σ H R I h => ?_⟩
  refine thn (hl.run pins s σ H _ I h) fun v s1 ⟨x, H1, I1, r1, q1⟩ => ?_
  obtain ⟨a, e, ⟨xs, hq⟩, q⟩ := q1
  subst e
  cases r1
  obtain ⟨its, rv, p, hz⟩ := I1.list hq
  refine wpAny_pyIter_list p.isList ?_
  refine ⟨s1.heap.objs.size, [s1.heap.objs.size], _, _, H1, rfl, I1.kept (t' := s1.toks) fun b o e => Heap.get?_push_of_some _ e, turn_listH a _, ⟨_, Heap.get?_push_size _ rfl, rfl, rfl⟩, fun b hb => ?_, q⟩
  have e : b = s1.heap.objs.size := by simpa using hb
  subst e
  exact I1.fpOk (Nat.le_refl _) (I1.hok.fresh (Nat.le_refl _))
end
end DO

namespace DO
open PySem PySem.Spec PyProof.Rows L2
section
variable {P : Program} {w : World} {K : PySem.W.Frag} {mg : Str → Option Value} {base : Heap}
/-! ### what is told of a raised error -/
def DOk (d : Option Addr) (H : Hp) : Prop := match d with
  | some d => ∃ fs, H d = some (.xd fs)
  | none => True
theorem DOk.same {d : Option Addr} {H H' : Hp} (h : DOk d H) (k : Same H H') : DOk d H' := by
  cases d with
  | none => trivial
  | some d =>
    obtain ⟨fs, z⟩ := h
    exact ⟨fs, k _ _ z⟩
def rIsDo (K : PySem.W.Frag) (D : Addr) (d : Option Addr) (a : Addr) : List V → Hp → VK → Prop := fun xs H Q => ∃ (c : V) (cv : Value) (b : Bool), xs = [.ref a, c] ∧ (∀ u, RelV c u → u = cv) ∧ DOk d H ∧ PySem.W.kitOne K (.ref D) cv = some b ∧ Q (.bl b) H
section
variable {X : Cx} {a D : Addr} {d : Option Addr} {oe : Obj}
theorem call_isDo (C : ExD X.K D) (hb : X.base.get? a = some oe) (hz : Zc (.ref D) d oe) (hf : ∃ vs, oe.data = .fields vs) : CallR X (.builtin "isinstance") (rIsDo X.K D d a) := by
  intro pins s σ H xs us Q I r h
  obtain ⟨c, cv, b, rfl, hcv, hd, e, q⟩ := h
  cases d with
  | some d =>
    obtain ⟨fs, ea⟩ := hd
    exact call_isD C hb hz hf pins s σ H _ us Q I r ⟨c, cv, b, fs, rfl, hcv, ea, e, q⟩
  | none =>
    cases r with
    | cons rx rr =>
      cases rr with
      | cons rt rr =>
        cases rr
        cases rx
        have ec := hcv _ rt
        subst ec
        have ha := (I.bs a oe hb).1
        obtain ⟨vs, hdat⟩ := hf
        have J : PySem.W.InstAt s.heap a oe D none := ⟨ha, hz.1, by unfold PySem.W.notCls; rw [hdat] <;> rfl, by rw [hz.2]; trivial⟩
        exact PySem.W.kia_one (PySem.W.kitx_exc C.cl C.hg C.hk C.hs C.ha C.hn C.ht C.hm) I.kIn J e (fun z => nomatch z) fun tk => ⟨.bl b, H, I.kept (t' := tk) fun _ _ z => z, rfl, q⟩
end
/-- what the class of an error says to isinstance -/
structure RaiC (K : PySem.W.Frag) {mg : Str → Option Value} (XS : Xs K mg) (i : Nat) : Prop where
  ec : ExD K (XS.c i)
  no : ∀ f ∈ (["name", "low", "high", "options", "option", "kind"] : List Str), PySem.W.findIn K (.ref (XS.c i)) f = some none
  k : ∀ j, j ≤ 10 → PySem.W.kitOne K (.ref (XS.c i)) (.ref (XS.c j)) = some (decide (j = i))
  kv : PySem.W.kitOne K (.ref (XS.c i)) (.type "ValueError") = some true
abbrev sRai : Stmt := top 52
theorem scRai : FnScope ["_law_e", "_law_found", "_law_label", "_law_hit"] ["_law_e"] (defScope sRai) := ⟨rfl, rfl, rfl, by decide +kernel, rfl, by decide +kernel, by decide +kernel⟩
def spRai (a : Addr) (d : Option Addr) (e : Er) : Sp := fun vs H Q _ => vs = [.ref a] ∧ DOk d H ∧ (∀ f v, e.fs.lookup f = some v → ∃ d' fs, d = some d' ∧ H d' = some (.xd fs) ∧ fs = e.fs) ∧ ∀ l H', H l = none → Same H H' → DueL H' l (some e) → Q (.ref l) H'
theorem ok_rai_nam {XS : Xs K mg} (i : Nat) (hi : i ≤ 5) (w0 : Str) {a : Addr} {d : Option Addr} {oe : Obj} {f : Addr} {fd : FuncData} (F : Fun K "_law_raised" "_law_raised" sRai f fd) (R : RaiC K XS i) (hb : base.get? a = some oe) (hz : Zc (.ref (XS.c i)) d oe) (hf : ∃ vs, oe.data = .fields vs) (hdn : ∃ d0, d = some d0) (mis : mg "isinstance" = none) (mve : mg "ValueError" = none) : L2H.FnH P w K mg base CX0 1 f fd ["_law_e"] (spRai a d (.nam i w0)) := by
  obtain ⟨d, rfl⟩ := hdn
  refine okH F scRai (fun vs H Q E h => ?_) (fun cdv A outer s H vs Q E p hot hr h => ?_)
  · obtain ⟨rfl, _⟩ := h
    rfl
  · obtain ⟨rfl, hd, hfs, k⟩ := h
    have hc : L2H.HotC (L2H.cxH CX0 P w K mg base ["_law_e", "_law_found", "_law_label", "_law_hit"] "_law_raised" (defScope sRai) f cdv A outer s H E p) := ⟨p, hot, List.mem_cons_self⟩
    refine ⟨_, (pss_cons (ps_set (i := 1) scRai.nd rfl (.inl rfl) (pe_lst pa_nil))
      (pss_cons (L2H.ps_forH (passes_of rfl) hc (pi_listH (pe_lst (pa_cons (pe_tup (pa_cons pe_str (pa_cons (pe_callB (call_isDo R.ec hb hz hf) (by rfl) mis (by decide +kernel) (pa_cons (pv 0) (pa_cons (pe_glob (v := .ref XS.x0.C) (by rfl) XS.x0.gC rfl) pa_nil))) pa_nil))) (pa_cons (pe_tup (pa_cons pe_str (pa_cons (pe_callB (call_isDo R.ec hb hz hf) (by rfl) mis (by decide +kernel) (pa_cons (pv 0) (pa_cons (pe_glob (v := .ref XS.x1.C) (by rfl) XS.x1.gC rfl) pa_nil))) pa_nil))) (pa_cons (pe_tup (pa_cons pe_str (pa_cons (pe_callB (call_isDo R.ec hb hz hf) (by rfl) mis (by decide +kernel) (pa_cons (pv 0) (pa_cons (pe_glob (v := .ref XS.x2.C) (by rfl) XS.x2.gC rfl) pa_nil))) pa_nil))) (pa_cons (pe_tup (pa_cons pe_str (pa_cons (pe_callB (call_isDo R.ec hb hz hf) (by rfl) mis (by decide +kernel) (pa_cons (pv 0) (pa_cons (pe_glob (v := .ref XS.x3.C) (by rfl) XS.x3.gC rfl) pa_nil))) pa_nil))) (pa_cons (pe_tup (pa_cons pe_str (pa_cons (pe_callB (call_isDo R.ec hb hz hf) (by rfl) mis (by decide +kernel) (pa_cons (pv 0) (pa_cons (pe_glob (v := .ref XS.x4.C) (by rfl) XS.x4.gC rfl) pa_nil))) pa_nil))) (pa_cons (pe_tup (pa_cons pe_str (pa_cons (pe_callB (call_isDo R.ec hb hz hf) (by rfl) mis (by decide +kernel) (pa_cons (pv 0) (pa_cons (pe_glob (v := .ref XS.x5.C) (by rfl) XS.x5.gC rfl) pa_nil))) pa_nil))) pa_nil)))))))) (pg_tupH hc (pgs_cons (pg_name (i := 2) scRai.nd rfl (Or.inl rfl)) (pgs_cons (pg_name (i := 3) scRai.nd rfl (Or.inl rfl)) pgs_nil))) (pss_one (ps_if (pt_val (pv 3))
      (pss_one (ps_expr (pe_bm PySem.F.plainAttrs_list PySem.F.slot_list_append PySem.F.type_list_append mt_append (pv 1) (pa_cons (pe_tup (pa_cons (pv 2) (pa_cons (pe_xb R.ec (R.no "name" (by simp)) hb hz hf (pv 0)) pa_nil))) pa_nil))))
      pss_nil)))
      (pss_cons (ps_if (pt_val (pe_callB (call_isDo R.ec hb hz hf) (by rfl) mis (by decide +kernel) (pa_cons (pv 0) (pa_cons (pe_glob (v := .ref XS.x6.C) (by rfl) XS.x6.gC rfl) pa_nil))))
      (pss_one (ps_never))
      pss_nil)
      (pss_cons (ps_if (pt_val (pe_callB (call_isDo R.ec hb hz hf) (by rfl) mis (by decide +kernel) (pa_cons (pv 0) (pa_cons (pe_glob (v := .ref XS.x7.C) (by rfl) XS.x7.gC rfl) pa_nil))))
      (pss_one (ps_never))
      pss_nil)
      (pss_cons (ps_if (pt_val (pe_callB (call_isDo R.ec hb hz hf) (by rfl) mis (by decide +kernel) (pa_cons (pv 0) (pa_cons (pe_glob (v := .ref XS.x8.C) (by rfl) XS.x8.gC rfl) pa_nil))))
      (pss_one (ps_never))
      pss_nil)
      (pss_cons (ps_if (pt_val (pe_callB (call_isDo R.ec hb hz hf) (by rfl) mis (by decide +kernel) (pa_cons (pv 0) (pa_cons (pe_glob (v := .ref XS.x9.C) (by rfl) XS.x9.gC rfl) pa_nil))))
      (pss_one (ps_never))
      pss_nil)
      (pss_cons (ps_if (pt_val (pe_callB (call_isDo R.ec hb hz hf) (by rfl) mis (by decide +kernel) (pa_cons (pv 0) (pa_cons (pe_glob (v := .ref XS.ce) (by rfl) XS.gC rfl) pa_nil))))
      (pss_one (ps_never))
      pss_nil)
      (pss_cons (ps_if (pt_not (pt_val (pe_callB (call_isDo R.ec hb hz hf) (by rfl) mis (by decide +kernel) (pa_cons (pv 0) (pa_cons (pe_bltn (v := .ty "ValueError") (by rfl) mve (by decide +kernel) rfl) pa_nil)))))
      (pss_one (ps_never))
      pss_nil)
      (pss_one (ps_ret (pv 1))))))))))), ?_⟩
    refine ⟨Nat.zero_le _, fun l nl => ?_⟩
    have s1 := same_upd (o := .lst []) nl
    have hl : (upd H l (.lst [])) l = some (.lst []) := upd_same
    generalize (upd H l (.lst [])) = H1 at s1 hl
    have k0 := R.k 0 (by decide)
    refine ⟨_, rfl, _, _, _, rfl, (fun u h => h), hd.same s1, k0, (by show 2 ≤ sizeLine; decide), fun q0 nq0 => ?_⟩
    have t0 := same_upd (o := .tup [V.str (xName 0), V.bl (decide (0 = i))]) nq0
    have hq0 : (upd H1 q0 (.tup [V.str (xName 0), V.bl (decide (0 = i))])) q0 = some (.tup [V.str (xName 0), V.bl (decide (0 = i))]) := upd_same
    have hl0 := t0 _ _ hl
    have sa0 := s1.trans t0
    show _
    generalize hG0 : (upd H1 q0 (.tup [V.str (xName 0), V.bl (decide (0 = i))])) = G0 at t0 hq0 hl0 sa0
    rw [show (upd H1 q0 (.tup [V.str (Str.ofString "BadName"), V.bl (decide (0 = i))])) = G0 from hG0]
    have k1 := R.k 1 (by decide)
    refine ⟨_, rfl, _, _, _, rfl, (fun u h => h), hd.same sa0, k1, (by show 2 ≤ sizeLine; decide), fun q1 nq1 => ?_⟩
    have t1 := same_upd (o := .tup [V.str (xName 1), V.bl (decide (1 = i))]) nq1
    have hq1 : (upd G0 q1 (.tup [V.str (xName 1), V.bl (decide (1 = i))])) q1 = some (.tup [V.str (xName 1), V.bl (decide (1 = i))]) := upd_same
    have hl1 := t1 _ _ hl0
    have sa1 := sa0.trans t1
    show _
    generalize hG1 : (upd G0 q1 (.tup [V.str (xName 1), V.bl (decide (1 = i))])) = G1 at t1 hq1 hl1 sa1
    rw [show (upd G0 q1 (.tup [V.str (Str.ofString "NameTaken"), V.bl (decide (1 = i))])) = G1 from hG1]
    have k2 := R.k 2 (by decide)
    refine ⟨_, rfl, _, _, _, rfl, (fun u h => h), hd.same sa1, k2, (by show 2 ≤ sizeLine; decide), fun q2 nq2 => ?_⟩
    have t2 := same_upd (o := .tup [V.str (xName 2), V.bl (decide (2 = i))]) nq2
    have hq2 : (upd G1 q2 (.tup [V.str (xName 2), V.bl (decide (2 = i))])) q2 = some (.tup [V.str (xName 2), V.bl (decide (2 = i))]) := upd_same
    have hl2 := t2 _ _ hl1
    have sa2 := sa1.trans t2
    show _
    generalize hG2 : (upd G1 q2 (.tup [V.str (xName 2), V.bl (decide (2 = i))])) = G2 at t2 hq2 hl2 sa2
    rw [show (upd G1 q2 (.tup [V.str (Str.ofString "UnknownName"), V.bl (decide (2 = i))])) = G2 from hG2]
    have k3 := R.k 3 (by decide)
    refine ⟨_, rfl, _, _, _, rfl, (fun u h => h), hd.same sa2, k3, (by show 2 ≤ sizeLine; decide), fun q3 nq3 => ?_⟩
    have t3 := same_upd (o := .tup [V.str (xName 3), V.bl (decide (3 = i))]) nq3
    have hq3 : (upd G2 q3 (.tup [V.str (xName 3), V.bl (decide (3 = i))])) q3 = some (.tup [V.str (xName 3), V.bl (decide (3 = i))]) := upd_same
    have hl3 := t3 _ _ hl2
    have sa3 := sa2.trans t3
    show _
    generalize hG3 : (upd G2 q3 (.tup [V.str (xName 3), V.bl (decide (3 = i))])) = G3 at t3 hq3 hl3 sa3
    rw [show (upd G2 q3 (.tup [V.str (Str.ofString "UnlikeEnds"), V.bl (decide (3 = i))])) = G3 from hG3]
    have k4 := R.k 4 (by decide)
    refine ⟨_, rfl, _, _, _, rfl, (fun u h => h), hd.same sa3, k4, (by show 2 ≤ sizeLine; decide), fun q4 nq4 => ?_⟩
    have t4 := same_upd (o := .tup [V.str (xName 4), V.bl (decide (4 = i))]) nq4
    have hq4 : (upd G3 q4 (.tup [V.str (xName 4), V.bl (decide (4 = i))])) q4 = some (.tup [V.str (xName 4), V.bl (decide (4 = i))]) := upd_same
    have hl4 := t4 _ _ hl3
    have sa4 := sa3.trans t4
    show _
    generalize hG4 : (upd G3 q4 (.tup [V.str (xName 4), V.bl (decide (4 = i))])) = G4 at t4 hq4 hl4 sa4
    rw [show (upd G3 q4 (.tup [V.str (Str.ofString "SamePart"), V.bl (decide (4 = i))])) = G4 from hG4]
    have k5 := R.k 5 (by decide)
    refine ⟨_, rfl, _, _, _, rfl, (fun u h => h), hd.same sa4, k5, (by show 2 ≤ sizeLine; decide), fun q5 nq5 => ?_⟩
    have t5 := same_upd (o := .tup [V.str (xName 5), V.bl (decide (5 = i))]) nq5
    have hq5 : (upd G4 q5 (.tup [V.str (xName 5), V.bl (decide (5 = i))])) q5 = some (.tup [V.str (xName 5), V.bl (decide (5 = i))]) := upd_same
    have hl5 := t5 _ _ hl4
    have sa5 := sa4.trans t5
    show _
    generalize hG5 : (upd G4 q5 (.tup [V.str (xName 5), V.bl (decide (5 = i))])) = G5 at t5 hq5 hl5 sa5
    rw [show (upd G4 q5 (.tup [V.str (Str.ofString "TurnTwice"), V.bl (decide (5 = i))])) = G5 from hG5]
    refine ⟨(by show 6 ≤ sizeLine; decide), fun L nL => ?_⟩
    have sL := same_upd (o := .lst [V.ref q0, V.ref q1, V.ref q2, V.ref q3, V.ref q4, V.ref q5]) nL
    have hL : (upd G5 L (.lst [V.ref q0, V.ref q1, V.ref q2, V.ref q3, V.ref q4, V.ref q5])) L = some (.lst [V.ref q0, V.ref q1, V.ref q2, V.ref q3, V.ref q4, V.ref q5]) := upd_same
    have sa := sa5.trans sL
    have hll := sL _ _ hl5
    have hQ0 := sL _ _ (t5 _ _ (t4 _ _ (t3 _ _ (t2 _ _ (t1 _ _ hq0)))))
    have hQ1 := sL _ _ (t5 _ _ (t4 _ _ (t3 _ _ (t2 _ _ hq1))))
    have hQ2 := sL _ _ (t5 _ _ (t4 _ _ (t3 _ _ hq2)))
    have hQ3 := sL _ _ (t5 _ _ (t4 _ _ hq3))
    have hQ4 := sL _ _ (t5 _ _ hq4)
    have hQ5 := sL _ _ hq5
    have hLl : L ≠ l := (ne_of_none hl5 nL).symm
    generalize (upd G5 L (.lst [V.ref q0, V.ref q1, V.ref q2, V.ref q3, V.ref q4, V.ref q5])) = H2 at sL hL sa hll hQ0 hQ1 hQ2 hQ3 hQ4 hQ5
    refine ⟨L, rfl, ⟨_, sql_of hL⟩, for_list (K := K) (a := L) (xs := [V.ref q0, V.ref q1, V.ref q2, V.ref q3, V.ref q4, V.ref q5]) (fun t σ H3 => ∃ x2 x3, σ = [some (.ref a), some (.ref l), x2, x3] ∧ (t ≤ i → H3 l = some (.lst [])) ∧ (i < t → ∃ q, H3 l = some (.lst [.ref q]) ∧ H3 q = some (.tup (Er.its (.nam i w0)))) ∧ Kp l H2 H3) ⟨none, none, rfl, fun _ => hll, fun z => absurd z (Nat.not_lt_zero _), Kp.refl⟩ (fun t σ H3 _ ⟨_, _, _, _, _, z⟩ => sql_of (z _ _ hL hLl)) ?_ ?_⟩
    · rintro t y σ H3 hi ⟨x2, x3, rfl, p1, p2, kp⟩
      have ht6 : t < 6 := (List.getElem?_eq_some_iff.mp hi).1
      have hy : ∃ q, y = .ref q ∧ H2 q = some (.tup [V.str (xName t), V.bl (decide (t = i))]) := by
        have : t = 0 ∨ t = 1 ∨ t = 2 ∨ t = 3 ∨ t = 4 ∨ t = 5 := by omega
        rcases this with rfl | rfl | rfl | rfl | rfl | rfl
        · exact ⟨q0, (Option.some.inj hi).symm, hQ0⟩
        · exact ⟨q1, (Option.some.inj hi).symm, hQ1⟩
        · exact ⟨q2, (Option.some.inj hi).symm, hQ2⟩
        · exact ⟨q3, (Option.some.inj hi).symm, hQ3⟩
        · exact ⟨q4, (Option.some.inj hi).symm, hQ4⟩
        · exact ⟨q5, (Option.some.inj hi).symm, hQ5⟩
      obtain ⟨q, rfl, hq⟩ := hy
      have hq3 := kp _ _ hq (ne_of hq hll fun z => nomatch z)
      refine ⟨q, _, rfl, sql_ofT hq3, rfl, _, _, rfl, _, _, rfl, rfl, ?_⟩
      refine ⟨_, rfl, decide (t = i), rfl, ite2 (fun e => ?_) (fun e => ?_)⟩
      · have et : t = i := of_decide_eq_true e
        have hl3 := p1 (by omega)
        have s3 : Same H H3 := fun b o eb => kp _ _ (sa _ _ eb) (ne_of_none eb nl)
        obtain ⟨d', fs, ed, hd', efs⟩ := hfs "name" (.str w0) (by rfl)
        cases ed
        subst efs
        refine ⟨_, rfl, .inl ⟨rfl, _, sql_of hl3⟩, _, rfl, _, rfl, rfl, _, .str w0, s3 _ _ hd', rfl, (by show 2 ≤ sizeLine; decide), fun q' nq' => ?_⟩
        have s4 := same_upd (o := .tup [V.str (xName t), V.str w0]) nq'
        have hl4 := s4 _ _ hl3
        have hq' : (upd H3 q' (.tup [V.str (xName t), V.str w0])) q' = some (.tup [V.str (xName t), V.str w0]) := upd_same
        refine ⟨l, [], _, rfl, rfl, hl4, (by show 0 < sizeLine; decide), ?_⟩
        refine ⟨_, _, rfl, fun z => absurd z (by omega), fun _ => ⟨q', upd_same, by rw [upd_ne (ne_of hq' hl4 fun z => nomatch z), ← et]; exact hq'⟩, (kp.trans (Kp.same s4)).trans Kp.upd⟩
      · have et : ¬ t = i := fun z => e (decide_eq_true z)
        exact ⟨_, _, rfl, fun z => p1 (by omega), fun z => p2 (by omega), kp⟩
    rintro σ H3 ⟨x2, x3, rfl, p1, p2, kp⟩
    have s3 : Same H H3 := fun b o eb => kp _ _ (sa _ _ eb) (ne_of_none eb nl)
    have hdue : DueL H3 l (some (.nam i w0)) := p2 (by show i < 6; omega)
    have k6 := R.k 6 (by decide)
    refine ⟨_, rfl, _, _, _, rfl, (fun u h => h), hd.same s3, k6, _, rfl, ?_⟩
    refine iteF' (decide_eq_false (by omega)) ?_
    have k7 := R.k 7 (by decide)
    refine ⟨_, rfl, _, _, _, rfl, (fun u h => h), hd.same s3, k7, _, rfl, ?_⟩
    refine iteF' (decide_eq_false (by omega)) ?_
    have k8 := R.k 8 (by decide)
    refine ⟨_, rfl, _, _, _, rfl, (fun u h => h), hd.same s3, k8, _, rfl, ?_⟩
    refine iteF' (decide_eq_false (by omega)) ?_
    have k9 := R.k 9 (by decide)
    refine ⟨_, rfl, _, _, _, rfl, (fun u h => h), hd.same s3, k9, _, rfl, ?_⟩
    refine iteF' (decide_eq_false (by omega)) ?_
    have k10 := R.k 10 (by decide)
    refine ⟨_, rfl, _, _, _, rfl, (fun u h => h), hd.same s3, k10, _, rfl, ?_⟩
    refine iteF' (decide_eq_false (by omega)) ?_
    refine ⟨_, rfl, _, _, _, rfl, (fun u h => h), hd.same s3, R.kv, _, rfl, ?_⟩
    refine iteF' rfl ?_
    exact ⟨_, rfl, k l _ nl s3 hdue⟩
theorem ok_rai_ends {XS : Xs K mg} (lo hi0 : Int) {a : Addr} {d : Option Addr} {oe : Obj} {f : Addr} {fd : FuncData} (F : Fun K "_law_raised" "_law_raised" sRai f fd) (R : RaiC K XS 6) (hb : base.get? a = some oe) (hz : Zc (.ref (XS.c 6)) d oe) (hf : ∃ vs, oe.data = .fields vs) (hdn : ∃ d0, d = some d0) (mis : mg "isinstance" = none) (mve : mg "ValueError" = none) : L2H.FnH P w K mg base CX0 1 f fd ["_law_e"] (spRai a d (.ends lo hi0)) := by
  obtain ⟨d, rfl⟩ := hdn
  refine okH F scRai (fun vs H Q E h => ?_) (fun cdv A outer s H vs Q E p hot hr h => ?_)
  · obtain ⟨rfl, _⟩ := h
    rfl
  · obtain ⟨rfl, hd, hfs, k⟩ := h
    have hc : L2H.HotC (L2H.cxH CX0 P w K mg base ["_law_e", "_law_found", "_law_label", "_law_hit"] "_law_raised" (defScope sRai) f cdv A outer s H E p) := ⟨p, hot, List.mem_cons_self⟩
    refine ⟨_, (pss_cons (ps_set (i := 1) scRai.nd rfl (.inl rfl) (pe_lst pa_nil))
      (pss_cons (L2H.ps_forH (passes_of rfl) hc (pi_listH (pe_lst (pa_cons (pe_tup (pa_cons pe_str (pa_cons (pe_callB (call_isDo R.ec hb hz hf) (by rfl) mis (by decide +kernel) (pa_cons (pv 0) (pa_cons (pe_glob (v := .ref XS.x0.C) (by rfl) XS.x0.gC rfl) pa_nil))) pa_nil))) (pa_cons (pe_tup (pa_cons pe_str (pa_cons (pe_callB (call_isDo R.ec hb hz hf) (by rfl) mis (by decide +kernel) (pa_cons (pv 0) (pa_cons (pe_glob (v := .ref XS.x1.C) (by rfl) XS.x1.gC rfl) pa_nil))) pa_nil))) (pa_cons (pe_tup (pa_cons pe_str (pa_cons (pe_callB (call_isDo R.ec hb hz hf) (by rfl) mis (by decide +kernel) (pa_cons (pv 0) (pa_cons (pe_glob (v := .ref XS.x2.C) (by rfl) XS.x2.gC rfl) pa_nil))) pa_nil))) (pa_cons (pe_tup (pa_cons pe_str (pa_cons (pe_callB (call_isDo R.ec hb hz hf) (by rfl) mis (by decide +kernel) (pa_cons (pv 0) (pa_cons (pe_glob (v := .ref XS.x3.C) (by rfl) XS.x3.gC rfl) pa_nil))) pa_nil))) (pa_cons (pe_tup (pa_cons pe_str (pa_cons (pe_callB (call_isDo R.ec hb hz hf) (by rfl) mis (by decide +kernel) (pa_cons (pv 0) (pa_cons (pe_glob (v := .ref XS.x4.C) (by rfl) XS.x4.gC rfl) pa_nil))) pa_nil))) (pa_cons (pe_tup (pa_cons pe_str (pa_cons (pe_callB (call_isDo R.ec hb hz hf) (by rfl) mis (by decide +kernel) (pa_cons (pv 0) (pa_cons (pe_glob (v := .ref XS.x5.C) (by rfl) XS.x5.gC rfl) pa_nil))) pa_nil))) pa_nil)))))))) (pg_tupH hc (pgs_cons (pg_name (i := 2) scRai.nd rfl (Or.inl rfl)) (pgs_cons (pg_name (i := 3) scRai.nd rfl (Or.inl rfl)) pgs_nil))) (pss_one (ps_if (pt_val (pv 3))
      (pss_one (ps_never))
      pss_nil)))
      (pss_cons (ps_if (pt_val (pe_callB (call_isDo R.ec hb hz hf) (by rfl) mis (by decide +kernel) (pa_cons (pv 0) (pa_cons (pe_glob (v := .ref XS.x6.C) (by rfl) XS.x6.gC rfl) pa_nil))))
      (pss_one (ps_expr (pe_bm PySem.F.plainAttrs_list PySem.F.slot_list_append PySem.F.type_list_append mt_append (pv 1) (pa_cons (pe_tup (pa_cons pe_str (pa_cons (pe_xb R.ec (R.no "low" (by simp)) hb hz hf (pv 0)) (pa_cons (pe_xb R.ec (R.no "high" (by simp)) hb hz hf (pv 0)) pa_nil)))) pa_nil))))
      pss_nil)
      (pss_cons (ps_if (pt_val (pe_callB (call_isDo R.ec hb hz hf) (by rfl) mis (by decide +kernel) (pa_cons (pv 0) (pa_cons (pe_glob (v := .ref XS.x7.C) (by rfl) XS.x7.gC rfl) pa_nil))))
      (pss_one (ps_never))
      pss_nil)
      (pss_cons (ps_if (pt_val (pe_callB (call_isDo R.ec hb hz hf) (by rfl) mis (by decide +kernel) (pa_cons (pv 0) (pa_cons (pe_glob (v := .ref XS.x8.C) (by rfl) XS.x8.gC rfl) pa_nil))))
      (pss_one (ps_never))
      pss_nil)
      (pss_cons (ps_if (pt_val (pe_callB (call_isDo R.ec hb hz hf) (by rfl) mis (by decide +kernel) (pa_cons (pv 0) (pa_cons (pe_glob (v := .ref XS.x9.C) (by rfl) XS.x9.gC rfl) pa_nil))))
      (pss_one (ps_never))
      pss_nil)
      (pss_cons (ps_if (pt_val (pe_callB (call_isDo R.ec hb hz hf) (by rfl) mis (by decide +kernel) (pa_cons (pv 0) (pa_cons (pe_glob (v := .ref XS.ce) (by rfl) XS.gC rfl) pa_nil))))
      (pss_one (ps_never))
      pss_nil)
      (pss_cons (ps_if (pt_not (pt_val (pe_callB (call_isDo R.ec hb hz hf) (by rfl) mis (by decide +kernel) (pa_cons (pv 0) (pa_cons (pe_bltn (v := .ty "ValueError") (by rfl) mve (by decide +kernel) rfl) pa_nil)))))
      (pss_one (ps_never))
      pss_nil)
      (pss_one (ps_ret (pv 1))))))))))), ?_⟩
    refine ⟨Nat.zero_le _, fun l nl => ?_⟩
    have s1 := same_upd (o := .lst []) nl
    have hl : (upd H l (.lst [])) l = some (.lst []) := upd_same
    generalize (upd H l (.lst [])) = H1 at s1 hl
    have k0 := R.k 0 (by decide)
    refine ⟨_, rfl, _, _, _, rfl, (fun u h => h), hd.same s1, k0, (by show 2 ≤ sizeLine; decide), fun q0 nq0 => ?_⟩
    have t0 := same_upd (o := .tup [V.str (xName 0), V.bl (decide (0 = 6))]) nq0
    have hq0 : (upd H1 q0 (.tup [V.str (xName 0), V.bl (decide (0 = 6))])) q0 = some (.tup [V.str (xName 0), V.bl (decide (0 = 6))]) := upd_same
    have hl0 := t0 _ _ hl
    have sa0 := s1.trans t0
    show _
    generalize hG0 : (upd H1 q0 (.tup [V.str (xName 0), V.bl (decide (0 = 6))])) = G0 at t0 hq0 hl0 sa0
    rw [show (upd H1 q0 (.tup [V.str (Str.ofString "BadName"), V.bl (decide (0 = 6))])) = G0 from hG0]
    have k1 := R.k 1 (by decide)
    refine ⟨_, rfl, _, _, _, rfl, (fun u h => h), hd.same sa0, k1, (by show 2 ≤ sizeLine; decide), fun q1 nq1 => ?_⟩
    have t1 := same_upd (o := .tup [V.str (xName 1), V.bl (decide (1 = 6))]) nq1
    have hq1 : (upd G0 q1 (.tup [V.str (xName 1), V.bl (decide (1 = 6))])) q1 = some (.tup [V.str (xName 1), V.bl (decide (1 = 6))]) := upd_same
    have hl1 := t1 _ _ hl0
    have sa1 := sa0.trans t1
    show _
    generalize hG1 : (upd G0 q1 (.tup [V.str (xName 1), V.bl (decide (1 = 6))])) = G1 at t1 hq1 hl1 sa1
    rw [show (upd G0 q1 (.tup [V.str (Str.ofString "NameTaken"), V.bl (decide (1 = 6))])) = G1 from hG1]
    have k2 := R.k 2 (by decide)
    refine ⟨_, rfl, _, _, _, rfl, (fun u h => h), hd.same sa1, k2, (by show 2 ≤ sizeLine; decide), fun q2 nq2 => ?_⟩
    have t2 := same_upd (o := .tup [V.str (xName 2), V.bl (decide (2 = 6))]) nq2
    have hq2 : (upd G1 q2 (.tup [V.str (xName 2), V.bl (decide (2 = 6))])) q2 = some (.tup [V.str (xName 2), V.bl (decide (2 = 6))]) := upd_same
    have hl2 := t2 _ _ hl1
    have sa2 := sa1.trans t2
    show _
    generalize hG2 : (upd G1 q2 (.tup [V.str (xName 2), V.bl (decide (2 = 6))])) = G2 at t2 hq2 hl2 sa2
    rw [show (upd G1 q2 (.tup [V.str (Str.ofString "UnknownName"), V.bl (decide (2 = 6))])) = G2 from hG2]
    have k3 := R.k 3 (by decide)
    refine ⟨_, rfl, _, _, _, rfl, (fun u h => h), hd.same sa2, k3, (by show 2 ≤ sizeLine; decide), fun q3 nq3 => ?_⟩
    have t3 := same_upd (o := .tup [V.str (xName 3), V.bl (decide (3 = 6))]) nq3
    have hq3 : (upd G2 q3 (.tup [V.str (xName 3), V.bl (decide (3 = 6))])) q3 = some (.tup [V.str (xName 3), V.bl (decide (3 = 6))]) := upd_same
    have hl3 := t3 _ _ hl2
    have sa3 := sa2.trans t3
    show _
    generalize hG3 : (upd G2 q3 (.tup [V.str (xName 3), V.bl (decide (3 = 6))])) = G3 at t3 hq3 hl3 sa3
    rw [show (upd G2 q3 (.tup [V.str (Str.ofString "UnlikeEnds"), V.bl (decide (3 = 6))])) = G3 from hG3]
    have k4 := R.k 4 (by decide)
    refine ⟨_, rfl, _, _, _, rfl, (fun u h => h), hd.same sa3, k4, (by show 2 ≤ sizeLine; decide), fun q4 nq4 => ?_⟩
    have t4 := same_upd (o := .tup [V.str (xName 4), V.bl (decide (4 = 6))]) nq4
    have hq4 : (upd G3 q4 (.tup [V.str (xName 4), V.bl (decide (4 = 6))])) q4 = some (.tup [V.str (xName 4), V.bl (decide (4 = 6))]) := upd_same
    have hl4 := t4 _ _ hl3
    have sa4 := sa3.trans t4
    show _
    generalize hG4 : (upd G3 q4 (.tup [V.str (xName 4), V.bl (decide (4 = 6))])) = G4 at t4 hq4 hl4 sa4
    rw [show (upd G3 q4 (.tup [V.str (Str.ofString "SamePart"), V.bl (decide (4 = 6))])) = G4 from hG4]
    have k5 := R.k 5 (by decide)
    refine ⟨_, rfl, _, _, _, rfl, (fun u h => h), hd.same sa4, k5, (by show 2 ≤ sizeLine; decide), fun q5 nq5 => ?_⟩
    have t5 := same_upd (o := .tup [V.str (xName 5), V.bl (decide (5 = 6))]) nq5
    have hq5 : (upd G4 q5 (.tup [V.str (xName 5), V.bl (decide (5 = 6))])) q5 = some (.tup [V.str (xName 5), V.bl (decide (5 = 6))]) := upd_same
    have hl5 := t5 _ _ hl4
    have sa5 := sa4.trans t5
    show _
    generalize hG5 : (upd G4 q5 (.tup [V.str (xName 5), V.bl (decide (5 = 6))])) = G5 at t5 hq5 hl5 sa5
    rw [show (upd G4 q5 (.tup [V.str (Str.ofString "TurnTwice"), V.bl (decide (5 = 6))])) = G5 from hG5]
    refine ⟨(by show 6 ≤ sizeLine; decide), fun L nL => ?_⟩
    have sL := same_upd (o := .lst [V.ref q0, V.ref q1, V.ref q2, V.ref q3, V.ref q4, V.ref q5]) nL
    have hL : (upd G5 L (.lst [V.ref q0, V.ref q1, V.ref q2, V.ref q3, V.ref q4, V.ref q5])) L = some (.lst [V.ref q0, V.ref q1, V.ref q2, V.ref q3, V.ref q4, V.ref q5]) := upd_same
    have sa := sa5.trans sL
    have hll := sL _ _ hl5
    have hQ0 := sL _ _ (t5 _ _ (t4 _ _ (t3 _ _ (t2 _ _ (t1 _ _ hq0)))))
    have hQ1 := sL _ _ (t5 _ _ (t4 _ _ (t3 _ _ (t2 _ _ hq1))))
    have hQ2 := sL _ _ (t5 _ _ (t4 _ _ (t3 _ _ hq2)))
    have hQ3 := sL _ _ (t5 _ _ (t4 _ _ hq3))
    have hQ4 := sL _ _ (t5 _ _ hq4)
    have hQ5 := sL _ _ hq5
    have hLl : L ≠ l := (ne_of_none hl5 nL).symm
    generalize (upd G5 L (.lst [V.ref q0, V.ref q1, V.ref q2, V.ref q3, V.ref q4, V.ref q5])) = H2 at sL hL sa hll hQ0 hQ1 hQ2 hQ3 hQ4 hQ5
    refine ⟨L, rfl, ⟨_, sql_of hL⟩, for_list (K := K) (a := L) (xs := [V.ref q0, V.ref q1, V.ref q2, V.ref q3, V.ref q4, V.ref q5]) (fun t σ H3 => ∃ x2 x3, σ = [some (.ref a), some (.ref l), x2, x3] ∧ (t ≤ 6 → H3 l = some (.lst [])) ∧ (6 < t → ∃ q, H3 l = some (.lst [.ref q]) ∧ H3 q = some (.tup (Er.its (.ends lo hi0)))) ∧ Kp l H2 H3) ⟨none, none, rfl, fun _ => hll, fun z => absurd z (Nat.not_lt_zero _), Kp.refl⟩ (fun t σ H3 _ ⟨_, _, _, _, _, z⟩ => sql_of (z _ _ hL hLl)) ?_ ?_⟩
    · rintro t y σ H3 hi ⟨x2, x3, rfl, p1, p2, kp⟩
      have ht6 : t < 6 := (List.getElem?_eq_some_iff.mp hi).1
      have hy : ∃ q, y = .ref q ∧ H2 q = some (.tup [V.str (xName t), V.bl (decide (t = 6))]) := by
        have : t = 0 ∨ t = 1 ∨ t = 2 ∨ t = 3 ∨ t = 4 ∨ t = 5 := by omega
        rcases this with rfl | rfl | rfl | rfl | rfl | rfl
        · exact ⟨q0, (Option.some.inj hi).symm, hQ0⟩
        · exact ⟨q1, (Option.some.inj hi).symm, hQ1⟩
        · exact ⟨q2, (Option.some.inj hi).symm, hQ2⟩
        · exact ⟨q3, (Option.some.inj hi).symm, hQ3⟩
        · exact ⟨q4, (Option.some.inj hi).symm, hQ4⟩
        · exact ⟨q5, (Option.some.inj hi).symm, hQ5⟩
      obtain ⟨q, rfl, hq⟩ := hy
      have hq3 := kp _ _ hq (ne_of hq hll fun z => nomatch z)
      refine ⟨q, _, rfl, sql_ofT hq3, rfl, _, _, rfl, _, _, rfl, rfl, ?_⟩
      refine ⟨_, rfl, decide (t = 6), rfl, ite2 (fun e => ?_) (fun e => ?_)⟩
      · have et : t = 6 := of_decide_eq_true e
        omega
      · have et : ¬ t = 6 := fun z => e (decide_eq_true z)
        exact ⟨_, _, rfl, fun z => p1 (by omega), fun z => p2 (by omega), kp⟩
    rintro σ H3 ⟨x2, x3, rfl, p1, p2, kp⟩
    have s3 : Same H H3 := fun b o eb => kp _ _ (sa _ _ eb) (ne_of_none eb nl)
    have hl3 := p1 (by show 6 ≤ 6; decide)
    have k6 := R.k 6 (by decide)
    refine ⟨_, rfl, _, _, _, rfl, (fun u h => h), hd.same s3, k6, _, rfl, ?_⟩
    refine iteT' (by decide) ?_
    obtain ⟨d', fs, ed, hd', efs⟩ := hfs "low" (.int lo) (by rfl)
    cases ed
    subst efs
    refine ⟨_, rfl, .inl ⟨rfl, _, sql_of hl3⟩, _, rfl, rfl, _, .int lo, s3 _ _ hd', rfl, _, rfl, rfl, _, .int hi0, s3 _ _ hd', rfl, (by show 3 ≤ sizeLine; decide), fun q' nq' => ?_⟩
    have s4 := same_upd (o := .tup [V.str "BadEnds", V.int lo, V.int hi0]) nq'
    have hl4 := s4 _ _ hl3
    have hq' : (upd H3 q' (.tup [V.str "BadEnds", V.int lo, V.int hi0])) q' = some (.tup [V.str "BadEnds", V.int lo, V.int hi0]) := upd_same
    refine ⟨l, [], _, rfl, rfl, hl4, (by show 0 < sizeLine; decide), ?_⟩
    have s5 : Same H (upd (upd H3 q' (.tup [V.str "BadEnds", V.int lo, V.int hi0])) l (.lst ([] ++ [V.ref q']))) := fun b o eb => by
      rw [upd_ne (ne_of_none eb nl)]
      exact s4 _ _ (s3 _ _ eb)
    have hdue : DueL (upd (upd H3 q' (.tup [V.str "BadEnds", V.int lo, V.int hi0])) l (.lst ([] ++ [V.ref q']))) l (some (.ends lo hi0)) := ⟨q', upd_same, by rw [upd_ne (ne_of hq' hl4 fun z => nomatch z)]; exact hq'⟩
    generalize (upd (upd H3 q' (.tup [V.str "BadEnds", V.int lo, V.int hi0])) l (.lst ([] ++ [V.ref q']))) = H6 at s5 hdue
    have k7 := R.k 7 (by decide)
    refine ⟨_, rfl, _, _, _, rfl, (fun u h => h), hd.same s5, k7, _, rfl, ?_⟩
    refine iteF' (by decide) ?_
    have k8 := R.k 8 (by decide)
    refine ⟨_, rfl, _, _, _, rfl, (fun u h => h), hd.same s5, k8, _, rfl, ?_⟩
    refine iteF' (by decide) ?_
    have k9 := R.k 9 (by decide)
    refine ⟨_, rfl, _, _, _, rfl, (fun u h => h), hd.same s5, k9, _, rfl, ?_⟩
    refine iteF' (by decide) ?_
    have k10 := R.k 10 (by decide)
    refine ⟨_, rfl, _, _, _, rfl, (fun u h => h), hd.same s5, k10, _, rfl, ?_⟩
    refine iteF' (by decide) ?_
    refine ⟨_, rfl, _, _, _, rfl, (fun u h => h), hd.same s5, R.kv, _, rfl, ?_⟩
    refine iteF' rfl ?_
    exact ⟨_, rfl, k l _ nl s5 hdue⟩
theorem ok_rai_cnt {XS : Xs K mg} (kk0 : Int) {a : Addr} {d : Option Addr} {oe : Obj} {f : Addr} {fd : FuncData} (F : Fun K "_law_raised" "_law_raised" sRai f fd) (R : RaiC K XS 7) (hb : base.get? a = some oe) (hz : Zc (.ref (XS.c 7)) d oe) (hf : ∃ vs, oe.data = .fields vs) (hdn : ∃ d0, d = some d0) (mis : mg "isinstance" = none) (mve : mg "ValueError" = none) : L2H.FnH P w K mg base CX0 1 f fd ["_law_e"] (spRai a d (.cnt kk0)) := by
  obtain ⟨d, rfl⟩ := hdn
  refine okH F scRai (fun vs H Q E h => ?_) (fun cdv A outer s H vs Q E p hot hr h => ?_)
  · obtain ⟨rfl, _⟩ := h
    rfl
  · obtain ⟨rfl, hd, hfs, k⟩ := h
    have hc : L2H.HotC (L2H.cxH CX0 P w K mg base ["_law_e", "_law_found", "_law_label", "_law_hit"] "_law_raised" (defScope sRai) f cdv A outer s H E p) := ⟨p, hot, List.mem_cons_self⟩
    refine ⟨_, (pss_cons (ps_set (i := 1) scRai.nd rfl (.inl rfl) (pe_lst pa_nil))
      (pss_cons (L2H.ps_forH (passes_of rfl) hc (pi_listH (pe_lst (pa_cons (pe_tup (pa_cons pe_str (pa_cons (pe_callB (call_isDo R.ec hb hz hf) (by rfl) mis (by decide +kernel) (pa_cons (pv 0) (pa_cons (pe_glob (v := .ref XS.x0.C) (by rfl) XS.x0.gC rfl) pa_nil))) pa_nil))) (pa_cons (pe_tup (pa_cons pe_str (pa_cons (pe_callB (call_isDo R.ec hb hz hf) (by rfl) mis (by decide +kernel) (pa_cons (pv 0) (pa_cons (pe_glob (v := .ref XS.x1.C) (by rfl) XS.x1.gC rfl) pa_nil))) pa_nil))) (pa_cons (pe_tup (pa_cons pe_str (pa_cons (pe_callB (call_isDo R.ec hb hz hf) (by rfl) mis (by decide +kernel) (pa_cons (pv 0) (pa_cons (pe_glob (v := .ref XS.x2.C) (by rfl) XS.x2.gC rfl) pa_nil))) pa_nil))) (pa_cons (pe_tup (pa_cons pe_str (pa_cons (pe_callB (call_isDo R.ec hb hz hf) (by rfl) mis (by decide +kernel) (pa_cons (pv 0) (pa_cons (pe_glob (v := .ref XS.x3.C) (by rfl) XS.x3.gC rfl) pa_nil))) pa_nil))) (pa_cons (pe_tup (pa_cons pe_str (pa_cons (pe_callB (call_isDo R.ec hb hz hf) (by rfl) mis (by decide +kernel) (pa_cons (pv 0) (pa_cons (pe_glob (v := .ref XS.x4.C) (by rfl) XS.x4.gC rfl) pa_nil))) pa_nil))) (pa_cons (pe_tup (pa_cons pe_str (pa_cons (pe_callB (call_isDo R.ec hb hz hf) (by rfl) mis (by decide +kernel) (pa_cons (pv 0) (pa_cons (pe_glob (v := .ref XS.x5.C) (by rfl) XS.x5.gC rfl) pa_nil))) pa_nil))) pa_nil)))))))) (pg_tupH hc (pgs_cons (pg_name (i := 2) scRai.nd rfl (Or.inl rfl)) (pgs_cons (pg_name (i := 3) scRai.nd rfl (Or.inl rfl)) pgs_nil))) (pss_one (ps_if (pt_val (pv 3))
      (pss_one (ps_never))
      pss_nil)))
      (pss_cons (ps_if (pt_val (pe_callB (call_isDo R.ec hb hz hf) (by rfl) mis (by decide +kernel) (pa_cons (pv 0) (pa_cons (pe_glob (v := .ref XS.x6.C) (by rfl) XS.x6.gC rfl) pa_nil))))
      (pss_one (ps_never))
      pss_nil)
      (pss_cons (ps_if (pt_val (pe_callB (call_isDo R.ec hb hz hf) (by rfl) mis (by decide +kernel) (pa_cons (pv 0) (pa_cons (pe_glob (v := .ref XS.x7.C) (by rfl) XS.x7.gC rfl) pa_nil))))
      (pss_one (ps_expr (pe_bm PySem.F.plainAttrs_list PySem.F.slot_list_append PySem.F.type_list_append mt_append (pv 1) (pa_cons (pe_tup (pa_cons pe_str (pa_cons (pe_xb R.ec (R.no "options" (by simp)) hb hz hf (pv 0)) pa_nil))) pa_nil))))
      pss_nil)
      (pss_cons (ps_if (pt_val (pe_callB (call_isDo R.ec hb hz hf) (by rfl) mis (by decide +kernel) (pa_cons (pv 0) (pa_cons (pe_glob (v := .ref XS.x8.C) (by rfl) XS.x8.gC rfl) pa_nil))))
      (pss_one (ps_never))
      pss_nil)
      (pss_cons (ps_if (pt_val (pe_callB (call_isDo R.ec hb hz hf) (by rfl) mis (by decide +kernel) (pa_cons (pv 0) (pa_cons (pe_glob (v := .ref XS.x9.C) (by rfl) XS.x9.gC rfl) pa_nil))))
      (pss_one (ps_never))
      pss_nil)
      (pss_cons (ps_if (pt_val (pe_callB (call_isDo R.ec hb hz hf) (by rfl) mis (by decide +kernel) (pa_cons (pv 0) (pa_cons (pe_glob (v := .ref XS.ce) (by rfl) XS.gC rfl) pa_nil))))
      (pss_one (ps_never))
      pss_nil)
      (pss_cons (ps_if (pt_not (pt_val (pe_callB (call_isDo R.ec hb hz hf) (by rfl) mis (by decide +kernel) (pa_cons (pv 0) (pa_cons (pe_bltn (v := .ty "ValueError") (by rfl) mve (by decide +kernel) rfl) pa_nil)))))
      (pss_one (ps_never))
      pss_nil)
      (pss_one (ps_ret (pv 1))))))))))), ?_⟩
    refine ⟨Nat.zero_le _, fun l nl => ?_⟩
    have s1 := same_upd (o := .lst []) nl
    have hl : (upd H l (.lst [])) l = some (.lst []) := upd_same
    generalize (upd H l (.lst [])) = H1 at s1 hl
    have k0 := R.k 0 (by decide)
    refine ⟨_, rfl, _, _, _, rfl, (fun u h => h), hd.same s1, k0, (by show 2 ≤ sizeLine; decide), fun q0 nq0 => ?_⟩
    have t0 := same_upd (o := .tup [V.str (xName 0), V.bl (decide (0 = 7))]) nq0
    have hq0 : (upd H1 q0 (.tup [V.str (xName 0), V.bl (decide (0 = 7))])) q0 = some (.tup [V.str (xName 0), V.bl (decide (0 = 7))]) := upd_same
    have hl0 := t0 _ _ hl
    have sa0 := s1.trans t0
    show _
    generalize hG0 : (upd H1 q0 (.tup [V.str (xName 0), V.bl (decide (0 = 7))])) = G0 at t0 hq0 hl0 sa0
    rw [show (upd H1 q0 (.tup [V.str (Str.ofString "BadName"), V.bl (decide (0 = 7))])) = G0 from hG0]
    have k1 := R.k 1 (by decide)
    refine ⟨_, rfl, _, _, _, rfl, (fun u h => h), hd.same sa0, k1, (by show 2 ≤ sizeLine; decide), fun q1 nq1 => ?_⟩
    have t1 := same_upd (o := .tup [V.str (xName 1), V.bl (decide (1 = 7))]) nq1
    have hq1 : (upd G0 q1 (.tup [V.str (xName 1), V.bl (decide (1 = 7))])) q1 = some (.tup [V.str (xName 1), V.bl (decide (1 = 7))]) := upd_same
    have hl1 := t1 _ _ hl0
    have sa1 := sa0.trans t1
    show _
    generalize hG1 : (upd G0 q1 (.tup [V.str (xName 1), V.bl (decide (1 = 7))])) = G1 at t1 hq1 hl1 sa1
    rw [show (upd G0 q1 (.tup [V.str (Str.ofString "NameTaken"), V.bl (decide (1 = 7))])) = G1 from hG1]
    have k2 := R.k 2 (by decide)
    refine ⟨_, rfl, _, _, _, rfl, (fun u h => h), hd.same sa1, k2, (by show 2 ≤ sizeLine; decide), fun q2 nq2 => ?_⟩
    have t2 := same_upd (o := .tup [V.str (xName 2), V.bl (decide (2 = 7))]) nq2
    have hq2 : (upd G1 q2 (.tup [V.str (xName 2), V.bl (decide (2 = 7))])) q2 = some (.tup [V.str (xName 2), V.bl (decide (2 = 7))]) := upd_same
    have hl2 := t2 _ _ hl1
    have sa2 := sa1.trans t2
    show _
    generalize hG2 : (upd G1 q2 (.tup [V.str (xName 2), V.bl (decide (2 = 7))])) = G2 at t2 hq2 hl2 sa2
    rw [show (upd G1 q2 (.tup [V.str (Str.ofString "UnknownName"), V.bl (decide (2 = 7))])) = G2 from hG2]
    have k3 := R.k 3 (by decide)
    refine ⟨_, rfl, _, _, _, rfl, (fun u h => h), hd.same sa2, k3, (by show 2 ≤ sizeLine; decide), fun q3 nq3 => ?_⟩
    have t3 := same_upd (o := .tup [V.str (xName 3), V.bl (decide (3 = 7))]) nq3
    have hq3 : (upd G2 q3 (.tup [V.str (xName 3), V.bl (decide (3 = 7))])) q3 = some (.tup [V.str (xName 3), V.bl (decide (3 = 7))]) := upd_same
    have hl3 := t3 _ _ hl2
    have sa3 := sa2.trans t3
    show _
    generalize hG3 : (upd G2 q3 (.tup [V.str (xName 3), V.bl (decide (3 = 7))])) = G3 at t3 hq3 hl3 sa3
    rw [show (upd G2 q3 (.tup [V.str (Str.ofString "UnlikeEnds"), V.bl (decide (3 = 7))])) = G3 from hG3]
    have k4 := R.k 4 (by decide)
    refine ⟨_, rfl, _, _, _, rfl, (fun u h => h), hd.same sa3, k4, (by show 2 ≤ sizeLine; decide), fun q4 nq4 => ?_⟩
    have t4 := same_upd (o := .tup [V.str (xName 4), V.bl (decide (4 = 7))]) nq4
    have hq4 : (upd G3 q4 (.tup [V.str (xName 4), V.bl (decide (4 = 7))])) q4 = some (.tup [V.str (xName 4), V.bl (decide (4 = 7))]) := upd_same
    have hl4 := t4 _ _ hl3
    have sa4 := sa3.trans t4
    show _
    generalize hG4 : (upd G3 q4 (.tup [V.str (xName 4), V.bl (decide (4 = 7))])) = G4 at t4 hq4 hl4 sa4
    rw [show (upd G3 q4 (.tup [V.str (Str.ofString "SamePart"), V.bl (decide (4 = 7))])) = G4 from hG4]
    have k5 := R.k 5 (by decide)
    refine ⟨_, rfl, _, _, _, rfl, (fun u h => h), hd.same sa4, k5, (by show 2 ≤ sizeLine; decide), fun q5 nq5 => ?_⟩
    have t5 := same_upd (o := .tup [V.str (xName 5), V.bl (decide (5 = 7))]) nq5
    have hq5 : (upd G4 q5 (.tup [V.str (xName 5), V.bl (decide (5 = 7))])) q5 = some (.tup [V.str (xName 5), V.bl (decide (5 = 7))]) := upd_same
    have hl5 := t5 _ _ hl4
    have sa5 := sa4.trans t5
    show _
    generalize hG5 : (upd G4 q5 (.tup [V.str (xName 5), V.bl (decide (5 = 7))])) = G5 at t5 hq5 hl5 sa5
    rw [show (upd G4 q5 (.tup [V.str (Str.ofString "TurnTwice"), V.bl (decide (5 = 7))])) = G5 from hG5]
    refine ⟨(by show 6 ≤ sizeLine; decide), fun L nL => ?_⟩
    have sL := same_upd (o := .lst [V.ref q0, V.ref q1, V.ref q2, V.ref q3, V.ref q4, V.ref q5]) nL
    have hL : (upd G5 L (.lst [V.ref q0, V.ref q1, V.ref q2, V.ref q3, V.ref q4, V.ref q5])) L = some (.lst [V.ref q0, V.ref q1, V.ref q2, V.ref q3, V.ref q4, V.ref q5]) := upd_same
    have sa := sa5.trans sL
    have hll := sL _ _ hl5
    have hQ0 := sL _ _ (t5 _ _ (t4 _ _ (t3 _ _ (t2 _ _ (t1 _ _ hq0)))))
    have hQ1 := sL _ _ (t5 _ _ (t4 _ _ (t3 _ _ (t2 _ _ hq1))))
    have hQ2 := sL _ _ (t5 _ _ (t4 _ _ (t3 _ _ hq2)))
    have hQ3 := sL _ _ (t5 _ _ (t4 _ _ hq3))
    have hQ4 := sL _ _ (t5 _ _ hq4)
    have hQ5 := sL _ _ hq5
    have hLl : L ≠ l := (ne_of_none hl5 nL).symm
    generalize (upd G5 L (.lst [V.ref q0, V.ref q1, V.ref q2, V.ref q3, V.ref q4, V.ref q5])) = H2 at sL hL sa hll hQ0 hQ1 hQ2 hQ3 hQ4 hQ5
    refine ⟨L, rfl, ⟨_, sql_of hL⟩, for_list (K := K) (a := L) (xs := [V.ref q0, V.ref q1, V.ref q2, V.ref q3, V.ref q4, V.ref q5]) (fun t σ H3 => ∃ x2 x3, σ = [some (.ref a), some (.ref l), x2, x3] ∧ (t ≤ 7 → H3 l = some (.lst [])) ∧ (7 < t → ∃ q, H3 l = some (.lst [.ref q]) ∧ H3 q = some (.tup (Er.its (.cnt kk0)))) ∧ Kp l H2 H3) ⟨none, none, rfl, fun _ => hll, fun z => absurd z (Nat.not_lt_zero _), Kp.refl⟩ (fun t σ H3 _ ⟨_, _, _, _, _, z⟩ => sql_of (z _ _ hL hLl)) ?_ ?_⟩
    · rintro t y σ H3 hi ⟨x2, x3, rfl, p1, p2, kp⟩
      have ht6 : t < 6 := (List.getElem?_eq_some_iff.mp hi).1
      have hy : ∃ q, y = .ref q ∧ H2 q = some (.tup [V.str (xName t), V.bl (decide (t = 7))]) := by
        have : t = 0 ∨ t = 1 ∨ t = 2 ∨ t = 3 ∨ t = 4 ∨ t = 5 := by omega
        rcases this with rfl | rfl | rfl | rfl | rfl | rfl
        · exact ⟨q0, (Option.some.inj hi).symm, hQ0⟩
        · exact ⟨q1, (Option.some.inj hi).symm, hQ1⟩
        · exact ⟨q2, (Option.some.inj hi).symm, hQ2⟩
        · exact ⟨q3, (Option.some.inj hi).symm, hQ3⟩
        · exact ⟨q4, (Option.some.inj hi).symm, hQ4⟩
        · exact ⟨q5, (Option.some.inj hi).symm, hQ5⟩
      obtain ⟨q, rfl, hq⟩ := hy
      have hq3 := kp _ _ hq (ne_of hq hll fun z => nomatch z)
      refine ⟨q, _, rfl, sql_ofT hq3, rfl, _, _, rfl, _, _, rfl, rfl, ?_⟩
      refine ⟨_, rfl, decide (t = 7), rfl, ite2 (fun e => ?_) (fun e => ?_)⟩
      · have et : t = 7 := of_decide_eq_true e
        omega
      · have et : ¬ t = 7 := fun z => e (decide_eq_true z)
        exact ⟨_, _, rfl, fun z => p1 (by omega), fun z => p2 (by omega), kp⟩
    rintro σ H3 ⟨x2, x3, rfl, p1, p2, kp⟩
    have s3 : Same H H3 := fun b o eb => kp _ _ (sa _ _ eb) (ne_of_none eb nl)
    have hl3 := p1 (by show 6 ≤ 7; decide)
    have k6 := R.k 6 (by decide)
    refine ⟨_, rfl, _, _, _, rfl, (fun u h => h), hd.same s3, k6, _, rfl, ?_⟩
    refine iteF' (by decide) ?_
    have k7 := R.k 7 (by decide)
    refine ⟨_, rfl, _, _, _, rfl, (fun u h => h), hd.same s3, k7, _, rfl, ?_⟩
    refine iteT' (by decide) ?_
    obtain ⟨d', fs, ed, hd', efs⟩ := hfs "options" (.int kk0) (by rfl)
    cases ed
    subst efs
    refine ⟨_, rfl, .inl ⟨rfl, _, sql_of hl3⟩, _, rfl, rfl, _, .int kk0, s3 _ _ hd', rfl, (by show 2 ≤ sizeLine; decide), fun q' nq' => ?_⟩
    have s4 := same_upd (o := .tup [V.str "BadCount", V.int kk0]) nq'
    have hl4 := s4 _ _ hl3
    have hq' : (upd H3 q' (.tup [V.str "BadCount", V.int kk0])) q' = some (.tup [V.str "BadCount", V.int kk0]) := upd_same
    refine ⟨l, [], _, rfl, rfl, hl4, (by show 0 < sizeLine; decide), ?_⟩
    have s5 : Same H (upd (upd H3 q' (.tup [V.str "BadCount", V.int kk0])) l (.lst ([] ++ [V.ref q']))) := fun b o eb => by
      rw [upd_ne (ne_of_none eb nl)]
      exact s4 _ _ (s3 _ _ eb)
    have hdue : DueL (upd (upd H3 q' (.tup [V.str "BadCount", V.int kk0])) l (.lst ([] ++ [V.ref q']))) l (some (.cnt kk0)) := ⟨q', upd_same, by rw [upd_ne (ne_of hq' hl4 fun z => nomatch z)]; exact hq'⟩
    generalize (upd (upd H3 q' (.tup [V.str "BadCount", V.int kk0])) l (.lst ([] ++ [V.ref q']))) = H6 at s5 hdue
    have k8 := R.k 8 (by decide)
    refine ⟨_, rfl, _, _, _, rfl, (fun u h => h), hd.same s5, k8, _, rfl, ?_⟩
    refine iteF' (by decide) ?_
    have k9 := R.k 9 (by decide)
    refine ⟨_, rfl, _, _, _, rfl, (fun u h => h), hd.same s5, k9, _, rfl, ?_⟩
    refine iteF' (by decide) ?_
    have k10 := R.k 10 (by decide)
    refine ⟨_, rfl, _, _, _, rfl, (fun u h => h), hd.same s5, k10, _, rfl, ?_⟩
    refine iteF' (by decide) ?_
    refine ⟨_, rfl, _, _, _, rfl, (fun u h => h), hd.same s5, R.kv, _, rfl, ?_⟩
    refine iteF' rfl ?_
    exact ⟨_, rfl, k l _ nl s5 hdue⟩
theorem ok_rai_opt {XS : Xs K mg} (w0 : Str) (kk0 : Int) {a : Addr} {d : Option Addr} {oe : Obj} {f : Addr} {fd : FuncData} (F : Fun K "_law_raised" "_law_raised" sRai f fd) (R : RaiC K XS 8) (hb : base.get? a = some oe) (hz : Zc (.ref (XS.c 8)) d oe) (hf : ∃ vs, oe.data = .fields vs) (hdn : ∃ d0, d = some d0) (mis : mg "isinstance" = none) (mve : mg "ValueError" = none) : L2H.FnH P w K mg base CX0 1 f fd ["_law_e"] (spRai a d (.opt w0 kk0)) := by
  obtain ⟨d, rfl⟩ := hdn
  refine okH F scRai (fun vs H Q E h => ?_) (fun cdv A outer s H vs Q E p hot hr h => ?_)
  · obtain ⟨rfl, _⟩ := h
    rfl
  · obtain ⟨rfl, hd, hfs, k⟩ := h
    have hc : L2H.HotC (L2H.cxH CX0 P w K mg base ["_law_e", "_law_found", "_law_label", "_law_hit"] "_law_raised" (defScope sRai) f cdv A outer s H E p) := ⟨p, hot, List.mem_cons_self⟩
    refine ⟨_, (pss_cons (ps_set (i := 1) scRai.nd rfl (.inl rfl) (pe_lst pa_nil))
      (pss_cons (L2H.ps_forH (passes_of rfl) hc (pi_listH (pe_lst (pa_cons (pe_tup (pa_cons pe_str (pa_cons (pe_callB (call_isDo R.ec hb hz hf) (by rfl) mis (by decide +kernel) (pa_cons (pv 0) (pa_cons (pe_glob (v := .ref XS.x0.C) (by rfl) XS.x0.gC rfl) pa_nil))) pa_nil))) (pa_cons (pe_tup (pa_cons pe_str (pa_cons (pe_callB (call_isDo R.ec hb hz hf) (by rfl) mis (by decide +kernel) (pa_cons (pv 0) (pa_cons (pe_glob (v := .ref XS.x1.C) (by rfl) XS.x1.gC rfl) pa_nil))) pa_nil))) (pa_cons (pe_tup (pa_cons pe_str (pa_cons (pe_callB (call_isDo R.ec hb hz hf) (by rfl) mis (by decide +kernel) (pa_cons (pv 0) (pa_cons (pe_glob (v := .ref XS.x2.C) (by rfl) XS.x2.gC rfl) pa_nil))) pa_nil))) (pa_cons (pe_tup (pa_cons pe_str (pa_cons (pe_callB (call_isDo R.ec hb hz hf) (by rfl) mis (by decide +kernel) (pa_cons (pv 0) (pa_cons (pe_glob (v := .ref XS.x3.C) (by rfl) XS.x3.gC rfl) pa_nil))) pa_nil))) (pa_cons (pe_tup (pa_cons pe_str (pa_cons (pe_callB (call_isDo R.ec hb hz hf) (by rfl) mis (by decide +kernel) (pa_cons (pv 0) (pa_cons (pe_glob (v := .ref XS.x4.C) (by rfl) XS.x4.gC rfl) pa_nil))) pa_nil))) (pa_cons (pe_tup (pa_cons pe_str (pa_cons (pe_callB (call_isDo R.ec hb hz hf) (by rfl) mis (by decide +kernel) (pa_cons (pv 0) (pa_cons (pe_glob (v := .ref XS.x5.C) (by rfl) XS.x5.gC rfl) pa_nil))) pa_nil))) pa_nil)))))))) (pg_tupH hc (pgs_cons (pg_name (i := 2) scRai.nd rfl (Or.inl rfl)) (pgs_cons (pg_name (i := 3) scRai.nd rfl (Or.inl rfl)) pgs_nil))) (pss_one (ps_if (pt_val (pv 3))
      (pss_one (ps_never))
      pss_nil)))
      (pss_cons (ps_if (pt_val (pe_callB (call_isDo R.ec hb hz hf) (by rfl) mis (by decide +kernel) (pa_cons (pv 0) (pa_cons (pe_glob (v := .ref XS.x6.C) (by rfl) XS.x6.gC rfl) pa_nil))))
      (pss_one (ps_never))
      pss_nil)
      (pss_cons (ps_if (pt_val (pe_callB (call_isDo R.ec hb hz hf) (by rfl) mis (by decide +kernel) (pa_cons (pv 0) (pa_cons (pe_glob (v := .ref XS.x7.C) (by rfl) XS.x7.gC rfl) pa_nil))))
      (pss_one (ps_never))
      pss_nil)
      (pss_cons (ps_if (pt_val (pe_callB (call_isDo R.ec hb hz hf) (by rfl) mis (by decide +kernel) (pa_cons (pv 0) (pa_cons (pe_glob (v := .ref XS.x8.C) (by rfl) XS.x8.gC rfl) pa_nil))))
      (pss_one (ps_expr (pe_bm PySem.F.plainAttrs_list PySem.F.slot_list_append PySem.F.type_list_append mt_append (pv 1) (pa_cons (pe_tup (pa_cons pe_str (pa_cons (pe_xb R.ec (R.no "name" (by simp)) hb hz hf (pv 0)) (pa_cons (pe_xb R.ec (R.no "option" (by simp)) hb hz hf (pv 0)) pa_nil)))) pa_nil))))
      pss_nil)
      (pss_cons (ps_if (pt_val (pe_callB (call_isDo R.ec hb hz hf) (by rfl) mis (by decide +kernel) (pa_cons (pv 0) (pa_cons (pe_glob (v := .ref XS.x9.C) (by rfl) XS.x9.gC rfl) pa_nil))))
      (pss_one (ps_never))
      pss_nil)
      (pss_cons (ps_if (pt_val (pe_callB (call_isDo R.ec hb hz hf) (by rfl) mis (by decide +kernel) (pa_cons (pv 0) (pa_cons (pe_glob (v := .ref XS.ce) (by rfl) XS.gC rfl) pa_nil))))
      (pss_one (ps_never))
      pss_nil)
      (pss_cons (ps_if (pt_not (pt_val (pe_callB (call_isDo R.ec hb hz hf) (by rfl) mis (by decide +kernel) (pa_cons (pv 0) (pa_cons (pe_bltn (v := .ty "ValueError") (by rfl) mve (by decide +kernel) rfl) pa_nil)))))
      (pss_one (ps_never))
      pss_nil)
      (pss_one (ps_ret (pv 1))))))))))), ?_⟩
    refine ⟨Nat.zero_le _, fun l nl => ?_⟩
    have s1 := same_upd (o := .lst []) nl
    have hl : (upd H l (.lst [])) l = some (.lst []) := upd_same
    generalize (upd H l (.lst [])) = H1 at s1 hl
    have k0 := R.k 0 (by decide)
    refine ⟨_, rfl, _, _, _, rfl, (fun u h => h), hd.same s1, k0, (by show 2 ≤ sizeLine; decide), fun q0 nq0 => ?_⟩
    have t0 := same_upd (o := .tup [V.str (xName 0), V.bl (decide (0 = 8))]) nq0
    have hq0 : (upd H1 q0 (.tup [V.str (xName 0), V.bl (decide (0 = 8))])) q0 = some (.tup [V.str (xName 0), V.bl (decide (0 = 8))]) := upd_same
    have hl0 := t0 _ _ hl
    have sa0 := s1.trans t0
    show _
    generalize hG0 : (upd H1 q0 (.tup [V.str (xName 0), V.bl (decide (0 = 8))])) = G0 at t0 hq0 hl0 sa0
    rw [show (upd H1 q0 (.tup [V.str (Str.ofString "BadName"), V.bl (decide (0 = 8))])) = G0 from hG0]
    have k1 := R.k 1 (by decide)
    refine ⟨_, rfl, _, _, _, rfl, (fun u h => h), hd.same sa0, k1, (by show 2 ≤ sizeLine; decide), fun q1 nq1 => ?_⟩
    have t1 := same_upd (o := .tup [V.str (xName 1), V.bl (decide (1 = 8))]) nq1
    have hq1 : (upd G0 q1 (.tup [V.str (xName 1), V.bl (decide (1 = 8))])) q1 = some (.tup [V.str (xName 1), V.bl (decide (1 = 8))]) := upd_same
    have hl1 := t1 _ _ hl0
    have sa1 := sa0.trans t1
    show _
    generalize hG1 : (upd G0 q1 (.tup [V.str (xName 1), V.bl (decide (1 = 8))])) = G1 at t1 hq1 hl1 sa1
    rw [show (upd G0 q1 (.tup [V.str (Str.ofString "NameTaken"), V.bl (decide (1 = 8))])) = G1 from hG1]
    have k2 := R.k 2 (by decide)
    refine ⟨_, rfl, _, _, _, rfl, (fun u h => h), hd.same sa1, k2, (by show 2 ≤ sizeLine; decide), fun q2 nq2 => ?_⟩
    have t2 := same_upd (o := .tup [V.str (xName 2), V.bl (decide (2 = 8))]) nq2
    have hq2 : (upd G1 q2 (.tup [V.str (xName 2), V.bl (decide (2 = 8))])) q2 = some (.tup [V.str (xName 2), V.bl (decide (2 = 8))]) := upd_same
    have hl2 := t2 _ _ hl1
    have sa2 := sa1.trans t2
    show _
    generalize hG2 : (upd G1 q2 (.tup [V.str (xName 2), V.bl (decide (2 = 8))])) = G2 at t2 hq2 hl2 sa2
    rw [show (upd G1 q2 (.tup [V.str (Str.ofString "UnknownName"), V.bl (decide (2 = 8))])) = G2 from hG2]
    have k3 := R.k 3 (by decide)
    refine ⟨_, rfl, _, _, _, rfl, (fun u h => h), hd.same sa2, k3, (by show 2 ≤ sizeLine; decide), fun q3 nq3 => ?_⟩
    have t3 := same_upd (o := .tup [V.str (xName 3), V.bl (decide (3 = 8))]) nq3
    have hq3 : (upd G2 q3 (.tup [V.str (xName 3), V.bl (decide (3 = 8))])) q3 = some (.tup [V.str (xName 3), V.bl (decide (3 = 8))]) := upd_same
    have hl3 := t3 _ _ hl2
    have sa3 := sa2.trans t3
    show _
    generalize hG3 : (upd G2 q3 (.tup [V.str (xName 3), V.bl (decide (3 = 8))])) = G3 at t3 hq3 hl3 sa3
    rw [show (upd G2 q3 (.tup [V.str (Str.ofString "UnlikeEnds"), V.bl (decide (3 = 8))])) = G3 from hG3]
    have k4 := R.k 4 (by decide)
    refine ⟨_, rfl, _, _, _, rfl, (fun u h => h), hd.same sa3, k4, (by show 2 ≤ sizeLine; decide), fun q4 nq4 => ?_⟩
    have t4 := same_upd (o := .tup [V.str (xName 4), V.bl (decide (4 = 8))]) nq4
    have hq4 : (upd G3 q4 (.tup [V.str (xName 4), V.bl (decide (4 = 8))])) q4 = some (.tup [V.str (xName 4), V.bl (decide (4 = 8))]) := upd_same
    have hl4 := t4 _ _ hl3
    have sa4 := sa3.trans t4
    show _
    generalize hG4 : (upd G3 q4 (.tup [V.str (xName 4), V.bl (decide (4 = 8))])) = G4 at t4 hq4 hl4 sa4
    rw [show (upd G3 q4 (.tup [V.str (Str.ofString "SamePart"), V.bl (decide (4 = 8))])) = G4 from hG4]
    have k5 := R.k 5 (by decide)
    refine ⟨_, rfl, _, _, _, rfl, (fun u h => h), hd.same sa4, k5, (by show 2 ≤ sizeLine; decide), fun q5 nq5 => ?_⟩
    have t5 := same_upd (o := .tup [V.str (xName 5), V.bl (decide (5 = 8))]) nq5
    have hq5 : (upd G4 q5 (.tup [V.str (xName 5), V.bl (decide (5 = 8))])) q5 = some (.tup [V.str (xName 5), V.bl (decide (5 = 8))]) := upd_same
    have hl5 := t5 _ _ hl4
    have sa5 := sa4.trans t5
    show _
    generalize hG5 : (upd G4 q5 (.tup [V.str (xName 5), V.bl (decide (5 = 8))])) = G5 at t5 hq5 hl5 sa5
    rw [show (upd G4 q5 (.tup [V.str (Str.ofString "TurnTwice"), V.bl (decide (5 = 8))])) = G5 from hG5]
    refine ⟨(by show 6 ≤ sizeLine; decide), fun L nL => ?_⟩
    have sL := same_upd (o := .lst [V.ref q0, V.ref q1, V.ref q2, V.ref q3, V.ref q4, V.ref q5]) nL
    have hL : (upd G5 L (.lst [V.ref q0, V.ref q1, V.ref q2, V.ref q3, V.ref q4, V.ref q5])) L = some (.lst [V.ref q0, V.ref q1, V.ref q2, V.ref q3, V.ref q4, V.ref q5]) := upd_same
    have sa := sa5.trans sL
    have hll := sL _ _ hl5
    have hQ0 := sL _ _ (t5 _ _ (t4 _ _ (t3 _ _ (t2 _ _ (t1 _ _ hq0)))))
    have hQ1 := sL _ _ (t5 _ _ (t4 _ _ (t3 _ _ (t2 _ _ hq1))))
    have hQ2 := sL _ _ (t5 _ _ (t4 _ _ (t3 _ _ hq2)))
    have hQ3 := sL _ _ (t5 _ _ (t4 _ _ hq3))
    have hQ4 := sL _ _ (t5 _ _ hq4)
    have hQ5 := sL _ _ hq5
    have hLl : L ≠ l := (ne_of_none hl5 nL).symm
    generalize (upd G5 L (.lst [V.ref q0, V.ref q1, V.ref q2, V.ref q3, V.ref q4, V.ref q5])) = H2 at sL hL sa hll hQ0 hQ1 hQ2 hQ3 hQ4 hQ5
    refine ⟨L, rfl, ⟨_, sql_of hL⟩, for_list (K := K) (a := L) (xs := [V.ref q0, V.ref q1, V.ref q2, V.ref q3, V.ref q4, V.ref q5]) (fun t σ H3 => ∃ x2 x3, σ = [some (.ref a), some (.ref l), x2, x3] ∧ (t ≤ 8 → H3 l = some (.lst [])) ∧ (8 < t → ∃ q, H3 l = some (.lst [.ref q]) ∧ H3 q = some (.tup (Er.its (.opt w0 kk0)))) ∧ Kp l H2 H3) ⟨none, none, rfl, fun _ => hll, fun z => absurd z (Nat.not_lt_zero _), Kp.refl⟩ (fun t σ H3 _ ⟨_, _, _, _, _, z⟩ => sql_of (z _ _ hL hLl)) ?_ ?_⟩
    · rintro t y σ H3 hi ⟨x2, x3, rfl, p1, p2, kp⟩
      have ht6 : t < 6 := (List.getElem?_eq_some_iff.mp hi).1
      have hy : ∃ q, y = .ref q ∧ H2 q = some (.tup [V.str (xName t), V.bl (decide (t = 8))]) := by
        have : t = 0 ∨ t = 1 ∨ t = 2 ∨ t = 3 ∨ t = 4 ∨ t = 5 := by omega
        rcases this with rfl | rfl | rfl | rfl | rfl | rfl
        · exact ⟨q0, (Option.some.inj hi).symm, hQ0⟩
        · exact ⟨q1, (Option.some.inj hi).symm, hQ1⟩
        · exact ⟨q2, (Option.some.inj hi).symm, hQ2⟩
        · exact ⟨q3, (Option.some.inj hi).symm, hQ3⟩
        · exact ⟨q4, (Option.some.inj hi).symm, hQ4⟩
        · exact ⟨q5, (Option.some.inj hi).symm, hQ5⟩
      obtain ⟨q, rfl, hq⟩ := hy
      have hq3 := kp _ _ hq (ne_of hq hll fun z => nomatch z)
      refine ⟨q, _, rfl, sql_ofT hq3, rfl, _, _, rfl, _, _, rfl, rfl, ?_⟩
      refine ⟨_, rfl, decide (t = 8), rfl, ite2 (fun e => ?_) (fun e => ?_)⟩
      · have et : t = 8 := of_decide_eq_true e
        omega
      · have et : ¬ t = 8 := fun z => e (decide_eq_true z)
        exact ⟨_, _, rfl, fun z => p1 (by omega), fun z => p2 (by omega), kp⟩
    rintro σ H3 ⟨x2, x3, rfl, p1, p2, kp⟩
    have s3 : Same H H3 := fun b o eb => kp _ _ (sa _ _ eb) (ne_of_none eb nl)
    have hl3 := p1 (by show 6 ≤ 8; decide)
    have k6 := R.k 6 (by decide)
    refine ⟨_, rfl, _, _, _, rfl, (fun u h => h), hd.same s3, k6, _, rfl, ?_⟩
    refine iteF' (by decide) ?_
    have k7 := R.k 7 (by decide)
    refine ⟨_, rfl, _, _, _, rfl, (fun u h => h), hd.same s3, k7, _, rfl, ?_⟩
    refine iteF' (by decide) ?_
    have k8 := R.k 8 (by decide)
    refine ⟨_, rfl, _, _, _, rfl, (fun u h => h), hd.same s3, k8, _, rfl, ?_⟩
    refine iteT' (by decide) ?_
    obtain ⟨d', fs, ed, hd', efs⟩ := hfs "name" (.str w0) (by rfl)
    cases ed
    subst efs
    refine ⟨_, rfl, .inl ⟨rfl, _, sql_of hl3⟩, _, rfl, rfl, _, .str w0, s3 _ _ hd', rfl, _, rfl, rfl, _, .int kk0, s3 _ _ hd', rfl, (by show 3 ≤ sizeLine; decide), fun q' nq' => ?_⟩
    have s4 := same_upd (o := .tup [V.str "BadOption", V.str w0, V.int kk0]) nq'
    have hl4 := s4 _ _ hl3
    have hq' : (upd H3 q' (.tup [V.str "BadOption", V.str w0, V.int kk0])) q' = some (.tup [V.str "BadOption", V.str w0, V.int kk0]) := upd_same
    refine ⟨l, [], _, rfl, rfl, hl4, (by show 0 < sizeLine; decide), ?_⟩
    have s5 : Same H (upd (upd H3 q' (.tup [V.str "BadOption", V.str w0, V.int kk0])) l (.lst ([] ++ [V.ref q']))) := fun b o eb => by
      rw [upd_ne (ne_of_none eb nl)]
      exact s4 _ _ (s3 _ _ eb)
    have hdue : DueL (upd (upd H3 q' (.tup [V.str "BadOption", V.str w0, V.int kk0])) l (.lst ([] ++ [V.ref q']))) l (some (.opt w0 kk0)) := ⟨q', upd_same, by rw [upd_ne (ne_of hq' hl4 fun z => nomatch z)]; exact hq'⟩
    generalize (upd (upd H3 q' (.tup [V.str "BadOption", V.str w0, V.int kk0])) l (.lst ([] ++ [V.ref q']))) = H6 at s5 hdue
    have k9 := R.k 9 (by decide)
    refine ⟨_, rfl, _, _, _, rfl, (fun u h => h), hd.same s5, k9, _, rfl, ?_⟩
    refine iteF' (by decide) ?_
    have k10 := R.k 10 (by decide)
    refine ⟨_, rfl, _, _, _, rfl, (fun u h => h), hd.same s5, k10, _, rfl, ?_⟩
    refine iteF' (by decide) ?_
    refine ⟨_, rfl, _, _, _, rfl, (fun u h => h), hd.same s5, R.kv, _, rfl, ?_⟩
    refine iteF' rfl ?_
    exact ⟨_, rfl, k l _ nl s5 hdue⟩
theorem ok_rai_ful {XS : Xs K mg} (w0 : Str) {a : Addr} {d : Option Addr} {oe : Obj} {f : Addr} {fd : FuncData} (F : Fun K "_law_raised" "_law_raised" sRai f fd) (R : RaiC K XS 9) (hb : base.get? a = some oe) (hz : Zc (.ref (XS.c 9)) d oe) (hf : ∃ vs, oe.data = .fields vs) (hdn : ∃ d0, d = some d0) (mis : mg "isinstance" = none) (mve : mg "ValueError" = none) : L2H.FnH P w K mg base CX0 1 f fd ["_law_e"] (spRai a d (.ful w0)) := by
  obtain ⟨d, rfl⟩ := hdn
  refine okH F scRai (fun vs H Q E h => ?_) (fun cdv A outer s H vs Q E p hot hr h => ?_)
  · obtain ⟨rfl, _⟩ := h
    rfl
  · obtain ⟨rfl, hd, hfs, k⟩ := h
    have hc : L2H.HotC (L2H.cxH CX0 P w K mg base ["_law_e", "_law_found", "_law_label", "_law_hit"] "_law_raised" (defScope sRai) f cdv A outer s H E p) := ⟨p, hot, List.mem_cons_self⟩
    refine ⟨_, (pss_cons (ps_set (i := 1) scRai.nd rfl (.inl rfl) (pe_lst pa_nil))
      (pss_cons (L2H.ps_forH (passes_of rfl) hc (pi_listH (pe_lst (pa_cons (pe_tup (pa_cons pe_str (pa_cons (pe_callB (call_isDo R.ec hb hz hf) (by rfl) mis (by decide +kernel) (pa_cons (pv 0) (pa_cons (pe_glob (v := .ref XS.x0.C) (by rfl) XS.x0.gC rfl) pa_nil))) pa_nil))) (pa_cons (pe_tup (pa_cons pe_str (pa_cons (pe_callB (call_isDo R.ec hb hz hf) (by rfl) mis (by decide +kernel) (pa_cons (pv 0) (pa_cons (pe_glob (v := .ref XS.x1.C) (by rfl) XS.x1.gC rfl) pa_nil))) pa_nil))) (pa_cons (pe_tup (pa_cons pe_str (pa_cons (pe_callB (call_isDo R.ec hb hz hf) (by rfl) mis (by decide +kernel) (pa_cons (pv 0) (pa_cons (pe_glob (v := .ref XS.x2.C) (by rfl) XS.x2.gC rfl) pa_nil))) pa_nil))) (pa_cons (pe_tup (pa_cons pe_str (pa_cons (pe_callB (call_isDo R.ec hb hz hf) (by rfl) mis (by decide +kernel) (pa_cons (pv 0) (pa_cons (pe_glob (v := .ref XS.x3.C) (by rfl) XS.x3.gC rfl) pa_nil))) pa_nil))) (pa_cons (pe_tup (pa_cons pe_str (pa_cons (pe_callB (call_isDo R.ec hb hz hf) (by rfl) mis (by decide +kernel) (pa_cons (pv 0) (pa_cons (pe_glob (v := .ref XS.x4.C) (by rfl) XS.x4.gC rfl) pa_nil))) pa_nil))) (pa_cons (pe_tup (pa_cons pe_str (pa_cons (pe_callB (call_isDo R.ec hb hz hf) (by rfl) mis (by decide +kernel) (pa_cons (pv 0) (pa_cons (pe_glob (v := .ref XS.x5.C) (by rfl) XS.x5.gC rfl) pa_nil))) pa_nil))) pa_nil)))))))) (pg_tupH hc (pgs_cons (pg_name (i := 2) scRai.nd rfl (Or.inl rfl)) (pgs_cons (pg_name (i := 3) scRai.nd rfl (Or.inl rfl)) pgs_nil))) (pss_one (ps_if (pt_val (pv 3))
      (pss_one (ps_never))
      pss_nil)))
      (pss_cons (ps_if (pt_val (pe_callB (call_isDo R.ec hb hz hf) (by rfl) mis (by decide +kernel) (pa_cons (pv 0) (pa_cons (pe_glob (v := .ref XS.x6.C) (by rfl) XS.x6.gC rfl) pa_nil))))
      (pss_one (ps_never))
      pss_nil)
      (pss_cons (ps_if (pt_val (pe_callB (call_isDo R.ec hb hz hf) (by rfl) mis (by decide +kernel) (pa_cons (pv 0) (pa_cons (pe_glob (v := .ref XS.x7.C) (by rfl) XS.x7.gC rfl) pa_nil))))
      (pss_one (ps_never))
      pss_nil)
      (pss_cons (ps_if (pt_val (pe_callB (call_isDo R.ec hb hz hf) (by rfl) mis (by decide +kernel) (pa_cons (pv 0) (pa_cons (pe_glob (v := .ref XS.x8.C) (by rfl) XS.x8.gC rfl) pa_nil))))
      (pss_one (ps_never))
      pss_nil)
      (pss_cons (ps_if (pt_val (pe_callB (call_isDo R.ec hb hz hf) (by rfl) mis (by decide +kernel) (pa_cons (pv 0) (pa_cons (pe_glob (v := .ref XS.x9.C) (by rfl) XS.x9.gC rfl) pa_nil))))
      (pss_one (ps_expr (pe_bm PySem.F.plainAttrs_list PySem.F.slot_list_append PySem.F.type_list_append mt_append (pv 1) (pa_cons (pe_tup (pa_cons pe_str (pa_cons (pe_xb R.ec (R.no "kind" (by simp)) hb hz hf (pv 0)) pa_nil))) pa_nil))))
      pss_nil)
      (pss_cons (ps_if (pt_val (pe_callB (call_isDo R.ec hb hz hf) (by rfl) mis (by decide +kernel) (pa_cons (pv 0) (pa_cons (pe_glob (v := .ref XS.ce) (by rfl) XS.gC rfl) pa_nil))))
      (pss_one (ps_never))
      pss_nil)
      (pss_cons (ps_if (pt_not (pt_val (pe_callB (call_isDo R.ec hb hz hf) (by rfl) mis (by decide +kernel) (pa_cons (pv 0) (pa_cons (pe_bltn (v := .ty "ValueError") (by rfl) mve (by decide +kernel) rfl) pa_nil)))))
      (pss_one (ps_never))
      pss_nil)
      (pss_one (ps_ret (pv 1))))))))))), ?_⟩
    refine ⟨Nat.zero_le _, fun l nl => ?_⟩
    have s1 := same_upd (o := .lst []) nl
    have hl : (upd H l (.lst [])) l = some (.lst []) := upd_same
    generalize (upd H l (.lst [])) = H1 at s1 hl
    have k0 := R.k 0 (by decide)
    refine ⟨_, rfl, _, _, _, rfl, (fun u h => h), hd.same s1, k0, (by show 2 ≤ sizeLine; decide), fun q0 nq0 => ?_⟩
    have t0 := same_upd (o := .tup [V.str (xName 0), V.bl (decide (0 = 9))]) nq0
    have hq0 : (upd H1 q0 (.tup [V.str (xName 0), V.bl (decide (0 = 9))])) q0 = some (.tup [V.str (xName 0), V.bl (decide (0 = 9))]) := upd_same
    have hl0 := t0 _ _ hl
    have sa0 := s1.trans t0
    show _
    generalize hG0 : (upd H1 q0 (.tup [V.str (xName 0), V.bl (decide (0 = 9))])) = G0 at t0 hq0 hl0 sa0
    rw [show (upd H1 q0 (.tup [V.str (Str.ofString "BadName"), V.bl (decide (0 = 9))])) = G0 from hG0]
    have k1 := R.k 1 (by decide)
    refine ⟨_, rfl, _, _, _, rfl, (fun u h => h), hd.same sa0, k1, (by show 2 ≤ sizeLine; decide), fun q1 nq1 => ?_⟩
    have t1 := same_upd (o := .tup [V.str (xName 1), V.bl (decide (1 = 9))]) nq1
    have hq1 : (upd G0 q1 (.tup [V.str (xName 1), V.bl (decide (1 = 9))])) q1 = some (.tup [V.str (xName 1), V.bl (decide (1 = 9))]) := upd_same
    have hl1 := t1 _ _ hl0
    have sa1 := sa0.trans t1
    show _
    generalize hG1 : (upd G0 q1 (.tup [V.str (xName 1), V.bl (decide (1 = 9))])) = G1 at t1 hq1 hl1 sa1
    rw [show (upd G0 q1 (.tup [V.str (Str.ofString "NameTaken"), V.bl (decide (1 = 9))])) = G1 from hG1]
    have k2 := R.k 2 (by decide)
    refine ⟨_, rfl, _, _, _, rfl, (fun u h => h), hd.same sa1, k2, (by show 2 ≤ sizeLine; decide), fun q2 nq2 => ?_⟩
    have t2 := same_upd (o := .tup [V.str (xName 2), V.bl (decide (2 = 9))]) nq2
    have hq2 : (upd G1 q2 (.tup [V.str (xName 2), V.bl (decide (2 = 9))])) q2 = some (.tup [V.str (xName 2), V.bl (decide (2 = 9))]) := upd_same
    have hl2 := t2 _ _ hl1
    have sa2 := sa1.trans t2
    show _
    generalize hG2 : (upd G1 q2 (.tup [V.str (xName 2), V.bl (decide (2 = 9))])) = G2 at t2 hq2 hl2 sa2
    rw [show (upd G1 q2 (.tup [V.str (Str.ofString "UnknownName"), V.bl (decide (2 = 9))])) = G2 from hG2]
    have k3 := R.k 3 (by decide)
    refine ⟨_, rfl, _, _, _, rfl, (fun u h => h), hd.same sa2, k3, (by show 2 ≤ sizeLine; decide), fun q3 nq3 => ?_⟩
    have t3 := same_upd (o := .tup [V.str (xName 3), V.bl (decide (3 = 9))]) nq3
    have hq3 : (upd G2 q3 (.tup [V.str (xName 3), V.bl (decide (3 = 9))])) q3 = some (.tup [V.str (xName 3), V.bl (decide (3 = 9))]) := upd_same
    have hl3 := t3 _ _ hl2
    have sa3 := sa2.trans t3
    show _
    generalize hG3 : (upd G2 q3 (.tup [V.str (xName 3), V.bl (decide (3 = 9))])) = G3 at t3 hq3 hl3 sa3
    rw [show (upd G2 q3 (.tup [V.str (Str.ofString "UnlikeEnds"), V.bl (decide (3 = 9))])) = G3 from hG3]
    have k4 := R.k 4 (by decide)
    refine ⟨_, rfl, _, _, _, rfl, (fun u h => h), hd.same sa3, k4, (by show 2 ≤ sizeLine; decide), fun q4 nq4 => ?_⟩
    have t4 := same_upd (o := .tup [V.str (xName 4), V.bl (decide (4 = 9))]) nq4
    have hq4 : (upd G3 q4 (.tup [V.str (xName 4), V.bl (decide (4 = 9))])) q4 = some (.tup [V.str (xName 4), V.bl (decide (4 = 9))]) := upd_same
    have hl4 := t4 _ _ hl3
    have sa4 := sa3.trans t4
    show _
    generalize hG4 : (upd G3 q4 (.tup [V.str (xName 4), V.bl (decide (4 = 9))])) = G4 at t4 hq4 hl4 sa4
    rw [show (upd G3 q4 (.tup [V.str (Str.ofString "SamePart"), V.bl (decide (4 = 9))])) = G4 from hG4]
    have k5 := R.k 5 (by decide)
    refine ⟨_, rfl, _, _, _, rfl, (fun u h => h), hd.same sa4, k5, (by show 2 ≤ sizeLine; decide), fun q5 nq5 => ?_⟩
    have t5 := same_upd (o := .tup [V.str (xName 5), V.bl (decide (5 = 9))]) nq5
    have hq5 : (upd G4 q5 (.tup [V.str (xName 5), V.bl (decide (5 = 9))])) q5 = some (.tup [V.str (xName 5), V.bl (decide (5 = 9))]) := upd_same
    have hl5 := t5 _ _ hl4
    have sa5 := sa4.trans t5
    show _
    generalize hG5 : (upd G4 q5 (.tup [V.str (xName 5), V.bl (decide (5 = 9))])) = G5 at t5 hq5 hl5 sa5
    rw [show (upd G4 q5 (.tup [V.str (Str.ofString "TurnTwice"), V.bl (decide (5 = 9))])) = G5 from hG5]
    refine ⟨(by show 6 ≤ sizeLine; decide), fun L nL => ?_⟩
    have sL := same_upd (o := .lst [V.ref q0, V.ref q1, V.ref q2, V.ref q3, V.ref q4, V.ref q5]) nL
    have hL : (upd G5 L (.lst [V.ref q0, V.ref q1, V.ref q2, V.ref q3, V.ref q4, V.ref q5])) L = some (.lst [V.ref q0, V.ref q1, V.ref q2, V.ref q3, V.ref q4, V.ref q5]) := upd_same
    have sa := sa5.trans sL
    have hll := sL _ _ hl5
    have hQ0 := sL _ _ (t5 _ _ (t4 _ _ (t3 _ _ (t2 _ _ (t1 _ _ hq0)))))
    have hQ1 := sL _ _ (t5 _ _ (t4 _ _ (t3 _ _ (t2 _ _ hq1))))
    have hQ2 := sL _ _ (t5 _ _ (t4 _ _ (t3 _ _ hq2)))
    have hQ3 := sL _ _ (t5 _ _ (t4 _ _ hq3))
    have hQ4 := sL _ _ (t5 _ _ hq4)
    have hQ5 := sL _ _ hq5
    have hLl : L ≠ l := (ne_of_none hl5 nL).symm
    generalize (upd G5 L (.lst [V.ref q0, V.ref q1, V.ref q2, V.ref q3, V.ref q4, V.ref q5])) = H2 at sL hL sa hll hQ0 hQ1 hQ2 hQ3 hQ4 hQ5
    refine ⟨L, rfl, ⟨_, sql_of hL⟩, for_list (K := K) (a := L) (xs := [V.ref q0, V.ref q1, V.ref q2, V.ref q3, V.ref q4, V.ref q5]) (fun t σ H3 => ∃ x2 x3, σ = [some (.ref a), some (.ref l), x2, x3] ∧ (t ≤ 9 → H3 l = some (.lst [])) ∧ (9 < t → ∃ q, H3 l = some (.lst [.ref q]) ∧ H3 q = some (.tup (Er.its (.ful w0)))) ∧ Kp l H2 H3) ⟨none, none, rfl, fun _ => hll, fun z => absurd z (Nat.not_lt_zero _), Kp.refl⟩ (fun t σ H3 _ ⟨_, _, _, _, _, z⟩ => sql_of (z _ _ hL hLl)) ?_ ?_⟩
    · rintro t y σ H3 hi ⟨x2, x3, rfl, p1, p2, kp⟩
      have ht6 : t < 6 := (List.getElem?_eq_some_iff.mp hi).1
      have hy : ∃ q, y = .ref q ∧ H2 q = some (.tup [V.str (xName t), V.bl (decide (t = 9))]) := by
        have : t = 0 ∨ t = 1 ∨ t = 2 ∨ t = 3 ∨ t = 4 ∨ t = 5 := by omega
        rcases this with rfl | rfl | rfl | rfl | rfl | rfl
        · exact ⟨q0, (Option.some.inj hi).symm, hQ0⟩
        · exact ⟨q1, (Option.some.inj hi).symm, hQ1⟩
        · exact ⟨q2, (Option.some.inj hi).symm, hQ2⟩
        · exact ⟨q3, (Option.some.inj hi).symm, hQ3⟩
        · exact ⟨q4, (Option.some.inj hi).symm, hQ4⟩
        · exact ⟨q5, (Option.some.inj hi).symm, hQ5⟩
      obtain ⟨q, rfl, hq⟩ := hy
      have hq3 := kp _ _ hq (ne_of hq hll fun z => nomatch z)
      refine ⟨q, _, rfl, sql_ofT hq3, rfl, _, _, rfl, _, _, rfl, rfl, ?_⟩
      refine ⟨_, rfl, decide (t = 9), rfl, ite2 (fun e => ?_) (fun e => ?_)⟩
      · have et : t = 9 := of_decide_eq_true e
        omega
      · have et : ¬ t = 9 := fun z => e (decide_eq_true z)
        exact ⟨_, _, rfl, fun z => p1 (by omega), fun z => p2 (by omega), kp⟩
    rintro σ H3 ⟨x2, x3, rfl, p1, p2, kp⟩
    have s3 : Same H H3 := fun b o eb => kp _ _ (sa _ _ eb) (ne_of_none eb nl)
    have hl3 := p1 (by show 6 ≤ 9; decide)
    have k6 := R.k 6 (by decide)
    refine ⟨_, rfl, _, _, _, rfl, (fun u h => h), hd.same s3, k6, _, rfl, ?_⟩
    refine iteF' (by decide) ?_
    have k7 := R.k 7 (by decide)
    refine ⟨_, rfl, _, _, _, rfl, (fun u h => h), hd.same s3, k7, _, rfl, ?_⟩
    refine iteF' (by decide) ?_
    have k8 := R.k 8 (by decide)
    refine ⟨_, rfl, _, _, _, rfl, (fun u h => h), hd.same s3, k8, _, rfl, ?_⟩
    refine iteF' (by decide) ?_
    have k9 := R.k 9 (by decide)
    refine ⟨_, rfl, _, _, _, rfl, (fun u h => h), hd.same s3, k9, _, rfl, ?_⟩
    refine iteT' (by decide) ?_
    obtain ⟨d', fs, ed, hd', efs⟩ := hfs "kind" (.str w0) (by rfl)
    cases ed
    subst efs
    refine ⟨_, rfl, .inl ⟨rfl, _, sql_of hl3⟩, _, rfl, rfl, _, .str w0, s3 _ _ hd', rfl, (by show 2 ≤ sizeLine; decide), fun q' nq' => ?_⟩
    have s4 := same_upd (o := .tup [V.str "CardFull", V.str w0]) nq'
    have hl4 := s4 _ _ hl3
    have hq' : (upd H3 q' (.tup [V.str "CardFull", V.str w0])) q' = some (.tup [V.str "CardFull", V.str w0]) := upd_same
    refine ⟨l, [], _, rfl, rfl, hl4, (by show 0 < sizeLine; decide), ?_⟩
    have s5 : Same H (upd (upd H3 q' (.tup [V.str "CardFull", V.str w0])) l (.lst ([] ++ [V.ref q']))) := fun b o eb => by
      rw [upd_ne (ne_of_none eb nl)]
      exact s4 _ _ (s3 _ _ eb)
    have hdue : DueL (upd (upd H3 q' (.tup [V.str "CardFull", V.str w0])) l (.lst ([] ++ [V.ref q']))) l (some (.ful w0)) := ⟨q', upd_same, by rw [upd_ne (ne_of hq' hl4 fun z => nomatch z)]; exact hq'⟩
    generalize (upd (upd H3 q' (.tup [V.str "CardFull", V.str w0])) l (.lst ([] ++ [V.ref q']))) = H6 at s5 hdue
    have k10 := R.k 10 (by decide)
    refine ⟨_, rfl, _, _, _, rfl, (fun u h => h), hd.same s5, k10, _, rfl, ?_⟩
    refine iteF' (by decide) ?_
    refine ⟨_, rfl, _, _, _, rfl, (fun u h => h), hd.same s5, R.kv, _, rfl, ?_⟩
    refine iteF' rfl ?_
    exact ⟨_, rfl, k l _ nl s5 hdue⟩
theorem ok_rai_emp {XS : Xs K mg}  {a : Addr} {d : Option Addr} {oe : Obj} {f : Addr} {fd : FuncData} (F : Fun K "_law_raised" "_law_raised" sRai f fd) (R : RaiC K XS 10) (hb : base.get? a = some oe) (hz : Zc (.ref (XS.c 10)) d oe) (hf : ∃ vs, oe.data = .fields vs) (hdn : d = none) (mis : mg "isinstance" = none) (mve : mg "ValueError" = none) : L2H.FnH P w K mg base CX0 1 f fd ["_law_e"] (spRai a d .emp) := by
  subst hdn
  refine okH F scRai (fun vs H Q E h => ?_) (fun cdv A outer s H vs Q E p hot hr h => ?_)
  · obtain ⟨rfl, _⟩ := h
    rfl
  · obtain ⟨rfl, hd, hfs, k⟩ := h
    have hc : L2H.HotC (L2H.cxH CX0 P w K mg base ["_law_e", "_law_found", "_law_label", "_law_hit"] "_law_raised" (defScope sRai) f cdv A outer s H E p) := ⟨p, hot, List.mem_cons_self⟩
    refine ⟨_, (pss_cons (ps_set (i := 1) scRai.nd rfl (.inl rfl) (pe_lst pa_nil))
      (pss_cons (L2H.ps_forH (passes_of rfl) hc (pi_listH (pe_lst (pa_cons (pe_tup (pa_cons pe_str (pa_cons (pe_callB (call_isDo R.ec hb hz hf) (by rfl) mis (by decide +kernel) (pa_cons (pv 0) (pa_cons (pe_glob (v := .ref XS.x0.C) (by rfl) XS.x0.gC rfl) pa_nil))) pa_nil))) (pa_cons (pe_tup (pa_cons pe_str (pa_cons (pe_callB (call_isDo R.ec hb hz hf) (by rfl) mis (by decide +kernel) (pa_cons (pv 0) (pa_cons (pe_glob (v := .ref XS.x1.C) (by rfl) XS.x1.gC rfl) pa_nil))) pa_nil))) (pa_cons (pe_tup (pa_cons pe_str (pa_cons (pe_callB (call_isDo R.ec hb hz hf) (by rfl) mis (by decide +kernel) (pa_cons (pv 0) (pa_cons (pe_glob (v := .ref XS.x2.C) (by rfl) XS.x2.gC rfl) pa_nil))) pa_nil))) (pa_cons (pe_tup (pa_cons pe_str (pa_cons (pe_callB (call_isDo R.ec hb hz hf) (by rfl) mis (by decide +kernel) (pa_cons (pv 0) (pa_cons (pe_glob (v := .ref XS.x3.C) (by rfl) XS.x3.gC rfl) pa_nil))) pa_nil))) (pa_cons (pe_tup (pa_cons pe_str (pa_cons (pe_callB (call_isDo R.ec hb hz hf) (by rfl) mis (by decide +kernel) (pa_cons (pv 0) (pa_cons (pe_glob (v := .ref XS.x4.C) (by rfl) XS.x4.gC rfl) pa_nil))) pa_nil))) (pa_cons (pe_tup (pa_cons pe_str (pa_cons (pe_callB (call_isDo R.ec hb hz hf) (by rfl) mis (by decide +kernel) (pa_cons (pv 0) (pa_cons (pe_glob (v := .ref XS.x5.C) (by rfl) XS.x5.gC rfl) pa_nil))) pa_nil))) pa_nil)))))))) (pg_tupH hc (pgs_cons (pg_name (i := 2) scRai.nd rfl (Or.inl rfl)) (pgs_cons (pg_name (i := 3) scRai.nd rfl (Or.inl rfl)) pgs_nil))) (pss_one (ps_if (pt_val (pv 3))
      (pss_one (ps_never))
      pss_nil)))
      (pss_cons (ps_if (pt_val (pe_callB (call_isDo R.ec hb hz hf) (by rfl) mis (by decide +kernel) (pa_cons (pv 0) (pa_cons (pe_glob (v := .ref XS.x6.C) (by rfl) XS.x6.gC rfl) pa_nil))))
      (pss_one (ps_never))
      pss_nil)
      (pss_cons (ps_if (pt_val (pe_callB (call_isDo R.ec hb hz hf) (by rfl) mis (by decide +kernel) (pa_cons (pv 0) (pa_cons (pe_glob (v := .ref XS.x7.C) (by rfl) XS.x7.gC rfl) pa_nil))))
      (pss_one (ps_never))
      pss_nil)
      (pss_cons (ps_if (pt_val (pe_callB (call_isDo R.ec hb hz hf) (by rfl) mis (by decide +kernel) (pa_cons (pv 0) (pa_cons (pe_glob (v := .ref XS.x8.C) (by rfl) XS.x8.gC rfl) pa_nil))))
      (pss_one (ps_never))
      pss_nil)
      (pss_cons (ps_if (pt_val (pe_callB (call_isDo R.ec hb hz hf) (by rfl) mis (by decide +kernel) (pa_cons (pv 0) (pa_cons (pe_glob (v := .ref XS.x9.C) (by rfl) XS.x9.gC rfl) pa_nil))))
      (pss_one (ps_never))
      pss_nil)
      (pss_cons (ps_if (pt_val (pe_callB (call_isDo R.ec hb hz hf) (by rfl) mis (by decide +kernel) (pa_cons (pv 0) (pa_cons (pe_glob (v := .ref XS.ce) (by rfl) XS.gC rfl) pa_nil))))
      (pss_one (ps_expr (pe_bm PySem.F.plainAttrs_list PySem.F.slot_list_append PySem.F.type_list_append mt_append (pv 1) (pa_cons (pe_tup (pa_cons pe_str pa_nil)) pa_nil))))
      pss_nil)
      (pss_cons (ps_if (pt_not (pt_val (pe_callB (call_isDo R.ec hb hz hf) (by rfl) mis (by decide +kernel) (pa_cons (pv 0) (pa_cons (pe_bltn (v := .ty "ValueError") (by rfl) mve (by decide +kernel) rfl) pa_nil)))))
      (pss_one (ps_never))
      pss_nil)
      (pss_one (ps_ret (pv 1))))))))))), ?_⟩
    refine ⟨Nat.zero_le _, fun l nl => ?_⟩
    have s1 := same_upd (o := .lst []) nl
    have hl : (upd H l (.lst [])) l = some (.lst []) := upd_same
    generalize (upd H l (.lst [])) = H1 at s1 hl
    have k0 := R.k 0 (by decide)
    refine ⟨_, rfl, _, _, _, rfl, (fun u h => h), hd.same s1, k0, (by show 2 ≤ sizeLine; decide), fun q0 nq0 => ?_⟩
    have t0 := same_upd (o := .tup [V.str (xName 0), V.bl (decide (0 = 10))]) nq0
    have hq0 : (upd H1 q0 (.tup [V.str (xName 0), V.bl (decide (0 = 10))])) q0 = some (.tup [V.str (xName 0), V.bl (decide (0 = 10))]) := upd_same
    have hl0 := t0 _ _ hl
    have sa0 := s1.trans t0
    show _
    generalize hG0 : (upd H1 q0 (.tup [V.str (xName 0), V.bl (decide (0 = 10))])) = G0 at t0 hq0 hl0 sa0
    rw [show (upd H1 q0 (.tup [V.str (Str.ofString "BadName"), V.bl (decide (0 = 10))])) = G0 from hG0]
    have k1 := R.k 1 (by decide)
    refine ⟨_, rfl, _, _, _, rfl, (fun u h => h), hd.same sa0, k1, (by show 2 ≤ sizeLine; decide), fun q1 nq1 => ?_⟩
    have t1 := same_upd (o := .tup [V.str (xName 1), V.bl (decide (1 = 10))]) nq1
    have hq1 : (upd G0 q1 (.tup [V.str (xName 1), V.bl (decide (1 = 10))])) q1 = some (.tup [V.str (xName 1), V.bl (decide (1 = 10))]) := upd_same
    have hl1 := t1 _ _ hl0
    have sa1 := sa0.trans t1
    show _
    generalize hG1 : (upd G0 q1 (.tup [V.str (xName 1), V.bl (decide (1 = 10))])) = G1 at t1 hq1 hl1 sa1
    rw [show (upd G0 q1 (.tup [V.str (Str.ofString "NameTaken"), V.bl (decide (1 = 10))])) = G1 from hG1]
    have k2 := R.k 2 (by decide)
    refine ⟨_, rfl, _, _, _, rfl, (fun u h => h), hd.same sa1, k2, (by show 2 ≤ sizeLine; decide), fun q2 nq2 => ?_⟩
    have t2 := same_upd (o := .tup [V.str (xName 2), V.bl (decide (2 = 10))]) nq2
    have hq2 : (upd G1 q2 (.tup [V.str (xName 2), V.bl (decide (2 = 10))])) q2 = some (.tup [V.str (xName 2), V.bl (decide (2 = 10))]) := upd_same
    have hl2 := t2 _ _ hl1
    have sa2 := sa1.trans t2
    show _
    generalize hG2 : (upd G1 q2 (.tup [V.str (xName 2), V.bl (decide (2 = 10))])) = G2 at t2 hq2 hl2 sa2
    rw [show (upd G1 q2 (.tup [V.str (Str.ofString "UnknownName"), V.bl (decide (2 = 10))])) = G2 from hG2]
    have k3 := R.k 3 (by decide)
    refine ⟨_, rfl, _, _, _, rfl, (fun u h => h), hd.same sa2, k3, (by show 2 ≤ sizeLine; decide), fun q3 nq3 => ?_⟩
    have t3 := same_upd (o := .tup [V.str (xName 3), V.bl (decide (3 = 10))]) nq3
    have hq3 : (upd G2 q3 (.tup [V.str (xName 3), V.bl (decide (3 = 10))])) q3 = some (.tup [V.str (xName 3), V.bl (decide (3 = 10))]) := upd_same
    have hl3 := t3 _ _ hl2
    have sa3 := sa2.trans t3
    show _
    generalize hG3 : (upd G2 q3 (.tup [V.str (xName 3), V.bl (decide (3 = 10))])) = G3 at t3 hq3 hl3 sa3
    rw [show (upd G2 q3 (.tup [V.str (Str.ofString "UnlikeEnds"), V.bl (decide (3 = 10))])) = G3 from hG3]
    have k4 := R.k 4 (by decide)
    refine ⟨_, rfl, _, _, _, rfl, (fun u h => h), hd.same sa3, k4, (by show 2 ≤ sizeLine; decide), fun q4 nq4 => ?_⟩
    have t4 := same_upd (o := .tup [V.str (xName 4), V.bl (decide (4 = 10))]) nq4
    have hq4 : (upd G3 q4 (.tup [V.str (xName 4), V.bl (decide (4 = 10))])) q4 = some (.tup [V.str (xName 4), V.bl (decide (4 = 10))]) := upd_same
    have hl4 := t4 _ _ hl3
    have sa4 := sa3.trans t4
    show _
    generalize hG4 : (upd G3 q4 (.tup [V.str (xName 4), V.bl (decide (4 = 10))])) = G4 at t4 hq4 hl4 sa4
    rw [show (upd G3 q4 (.tup [V.str (Str.ofString "SamePart"), V.bl (decide (4 = 10))])) = G4 from hG4]
    have k5 := R.k 5 (by decide)
    refine ⟨_, rfl, _, _, _, rfl, (fun u h => h), hd.same sa4, k5, (by show 2 ≤ sizeLine; decide), fun q5 nq5 => ?_⟩
    have t5 := same_upd (o := .tup [V.str (xName 5), V.bl (decide (5 = 10))]) nq5
    have hq5 : (upd G4 q5 (.tup [V.str (xName 5), V.bl (decide (5 = 10))])) q5 = some (.tup [V.str (xName 5), V.bl (decide (5 = 10))]) := upd_same
    have hl5 := t5 _ _ hl4
    have sa5 := sa4.trans t5
    show _
    generalize hG5 : (upd G4 q5 (.tup [V.str (xName 5), V.bl (decide (5 = 10))])) = G5 at t5 hq5 hl5 sa5
    rw [show (upd G4 q5 (.tup [V.str (Str.ofString "TurnTwice"), V.bl (decide (5 = 10))])) = G5 from hG5]
    refine ⟨(by show 6 ≤ sizeLine; decide), fun L nL => ?_⟩
    have sL := same_upd (o := .lst [V.ref q0, V.ref q1, V.ref q2, V.ref q3, V.ref q4, V.ref q5]) nL
    have hL : (upd G5 L (.lst [V.ref q0, V.ref q1, V.ref q2, V.ref q3, V.ref q4, V.ref q5])) L = some (.lst [V.ref q0, V.ref q1, V.ref q2, V.ref q3, V.ref q4, V.ref q5]) := upd_same
    have sa := sa5.trans sL
    have hll := sL _ _ hl5
    have hQ0 := sL _ _ (t5 _ _ (t4 _ _ (t3 _ _ (t2 _ _ (t1 _ _ hq0)))))
    have hQ1 := sL _ _ (t5 _ _ (t4 _ _ (t3 _ _ (t2 _ _ hq1))))
    have hQ2 := sL _ _ (t5 _ _ (t4 _ _ (t3 _ _ hq2)))
    have hQ3 := sL _ _ (t5 _ _ (t4 _ _ hq3))
    have hQ4 := sL _ _ (t5 _ _ hq4)
    have hQ5 := sL _ _ hq5
    have hLl : L ≠ l := (ne_of_none hl5 nL).symm
    generalize (upd G5 L (.lst [V.ref q0, V.ref q1, V.ref q2, V.ref q3, V.ref q4, V.ref q5])) = H2 at sL hL sa hll hQ0 hQ1 hQ2 hQ3 hQ4 hQ5
    refine ⟨L, rfl, ⟨_, sql_of hL⟩, for_list (K := K) (a := L) (xs := [V.ref q0, V.ref q1, V.ref q2, V.ref q3, V.ref q4, V.ref q5]) (fun t σ H3 => ∃ x2 x3, σ = [some (.ref a), some (.ref l), x2, x3] ∧ (t ≤ 10 → H3 l = some (.lst [])) ∧ (10 < t → ∃ q, H3 l = some (.lst [.ref q]) ∧ H3 q = some (.tup (Er.its .emp))) ∧ Kp l H2 H3) ⟨none, none, rfl, fun _ => hll, fun z => absurd z (Nat.not_lt_zero _), Kp.refl⟩ (fun t σ H3 _ ⟨_, _, _, _, _, z⟩ => sql_of (z _ _ hL hLl)) ?_ ?_⟩
    · rintro t y σ H3 hi ⟨x2, x3, rfl, p1, p2, kp⟩
      have ht6 : t < 6 := (List.getElem?_eq_some_iff.mp hi).1
      have hy : ∃ q, y = .ref q ∧ H2 q = some (.tup [V.str (xName t), V.bl (decide (t = 10))]) := by
        have : t = 0 ∨ t = 1 ∨ t = 2 ∨ t = 3 ∨ t = 4 ∨ t = 5 := by omega
        rcases this with rfl | rfl | rfl | rfl | rfl | rfl
        · exact ⟨q0, (Option.some.inj hi).symm, hQ0⟩
        · exact ⟨q1, (Option.some.inj hi).symm, hQ1⟩
        · exact ⟨q2, (Option.some.inj hi).symm, hQ2⟩
        · exact ⟨q3, (Option.some.inj hi).symm, hQ3⟩
        · exact ⟨q4, (Option.some.inj hi).symm, hQ4⟩
        · exact ⟨q5, (Option.some.inj hi).symm, hQ5⟩
      obtain ⟨q, rfl, hq⟩ := hy
      have hq3 := kp _ _ hq (ne_of hq hll fun z => nomatch z)
      refine ⟨q, _, rfl, sql_ofT hq3, rfl, _, _, rfl, _, _, rfl, rfl, ?_⟩
      refine ⟨_, rfl, decide (t = 10), rfl, ite2 (fun e => ?_) (fun e => ?_)⟩
      · have et : t = 10 := of_decide_eq_true e
        omega
      · have et : ¬ t = 10 := fun z => e (decide_eq_true z)
        exact ⟨_, _, rfl, fun z => p1 (by omega), fun z => p2 (by omega), kp⟩
    rintro σ H3 ⟨x2, x3, rfl, p1, p2, kp⟩
    have s3 : Same H H3 := fun b o eb => kp _ _ (sa _ _ eb) (ne_of_none eb nl)
    have hl3 := p1 (by show 6 ≤ 10; decide)
    have k6 := R.k 6 (by decide)
    refine ⟨_, rfl, _, _, _, rfl, (fun u h => h), hd.same s3, k6, _, rfl, ?_⟩
    refine iteF' (by decide) ?_
    have k7 := R.k 7 (by decide)
    refine ⟨_, rfl, _, _, _, rfl, (fun u h => h), hd.same s3, k7, _, rfl, ?_⟩
    refine iteF' (by decide) ?_
    have k8 := R.k 8 (by decide)
    refine ⟨_, rfl, _, _, _, rfl, (fun u h => h), hd.same s3, k8, _, rfl, ?_⟩
    refine iteF' (by decide) ?_
    have k9 := R.k 9 (by decide)
    refine ⟨_, rfl, _, _, _, rfl, (fun u h => h), hd.same s3, k9, _, rfl, ?_⟩
    refine iteF' (by decide) ?_
    have k10 := R.k 10 (by decide)
    refine ⟨_, rfl, _, _, _, rfl, (fun u h => h), hd.same s3, k10, _, rfl, ?_⟩
    refine iteT' (by decide) ?_
    refine ⟨_, rfl, .inl ⟨rfl, _, sql_of hl3⟩, (by show 1 ≤ sizeLine; decide), fun q' nq' => ?_⟩
    have s4 := same_upd (o := .tup [V.str "CardEmpty"]) nq'
    have hl4 := s4 _ _ hl3
    have hq' : (upd H3 q' (.tup [V.str "CardEmpty"])) q' = some (.tup [V.str "CardEmpty"]) := upd_same
    refine ⟨l, [], _, rfl, rfl, hl4, (by show 0 < sizeLine; decide), ?_⟩
    have s5 : Same H (upd (upd H3 q' (.tup [V.str "CardEmpty"])) l (.lst ([] ++ [V.ref q']))) := fun b o eb => by
      rw [upd_ne (ne_of_none eb nl)]
      exact s4 _ _ (s3 _ _ eb)
    have hdue : DueL (upd (upd H3 q' (.tup [V.str "CardEmpty"])) l (.lst ([] ++ [V.ref q']))) l (some .emp) := ⟨q', upd_same, by rw [upd_ne (ne_of hq' hl4 fun z => nomatch z)]; exact hq'⟩
    generalize (upd (upd H3 q' (.tup [V.str "CardEmpty"])) l (.lst ([] ++ [V.ref q']))) = H6 at s5 hdue
    refine ⟨_, rfl, _, _, _, rfl, (fun u h => h), hd.same s5, R.kv, _, rfl, ?_⟩
    refine iteF' rfl ?_
    exact ⟨_, rfl, k l _ nl s5 hdue⟩
end
end DO

namespace DO
open PySem PySem.Spec PyProof.Rows L2
section
variable {P : Program} {w : World} {K : PySem.W.Frag} {mg : Str → Option Value} {base : Heap}
section
variable {X : Cx} {CX : CXT} {k : Nat} {C f : Addr} {fd : FuncData} {ps : List Str} {sp : Sp}
/-- o.m(e, ..), what it raises hanging on the slots -/
theorem pe_methE {pl : Sem Bool} {E : L2.St → XK} {m : Str} {e o : Expr} {es : List Expr} {ta : TE} {t : TA} {apos pos : Pos} (he : PE X o ta) (c : Cls X.K C) (hm : Meth X.K C m f) (F : FnOk X.prog X.w X.K X.mg X.base CX k f fd ps sp) (hr : Room k X.A) (hb : Binds X.K fd ps [])
    (hx : ∀ σ, PassesAt CX X σ (E σ)) (ha : PA X (e :: es) t) (hst : starEach (e :: es) X.env = (false, eval e X.env) :: starEach es X.env := by rfl) (hpl : (backTo pos (starEach es X.env)).any (·.1) = false := by rfl)
    (ht : eval (.Call (.Attribute o m apos) (e :: es) [] pos) X.env = (do
      let ov ← eval o X.env
      standAt apos.atName
      let (f, first) ← holding [ov] (getMethod ov m pl)
      callWith pos f first (backTo pos (starEach (e :: es) X.env)) (backToKw pos (keywordEach [] X.env))) := by rfl) :
    PE X (.Call (.Attribute o m apos) (e :: es) [] pos) (L2H.tMethH C m sp E ta t) := by
  refine ⟨fun pins s σ H Q I h => ?_⟩
  refine PySem.W.methodCall_KW (pl := pl) (wpAny_mono (he.run pins s σ H _ I h) (fun u s1 z => ?_) fun _ _ z => z) ht
  obtain ⟨x, H1, I1, rx, a, dx, fs, ex, ea, l, q⟩ := z
  subst ex
  obtain rfl : u = Value.ref a := rx
  refine getmeth_ok I1 ea c hm l ?_
  refine PySem.W.callWith_K (first := [.ref a]) (h₀ := X.base) I.ok.mod.kin hm.kp (wpAny_mono (ha.run pos pins s1 σ H1 _ I1 q) (fun us s2 z => ?_) fun _ _ z => z) hst hpl
  obtain ⟨vs, H2, I2, r, q2⟩ := z
  exact ⟨I2.kIn, run_fnS (us := .ref a :: us) (vs := .ref a :: vs) F hr hb (hx σ) I2 (.cons rfl r) q2⟩
theorem pe_methE0 {pl : Sem Bool} {E : L2.St → XK} {m : Str} {o : Expr} {ta : TE} {apos pos : Pos} (he : PE X o ta) (c : Cls X.K C) (hm : Meth X.K C m f) (F : FnOk X.prog X.w X.K X.mg X.base CX k f fd ps sp) (hr : Room k X.A) (hb : Binds X.K fd ps [])
    (hx : ∀ σ, PassesAt CX X σ (E σ))
    (ht : eval (.Call (.Attribute o m apos) [] [] pos) X.env = (do
      let ov ← eval o X.env
      standAt apos.atName
      let (f, first) ← holding [ov] (getMethod ov m pl)
      callWith pos f first (backTo pos (starEach [] X.env)) (backToKw pos (keywordEach [] X.env))) := by rfl) :
    PE X (.Call (.Attribute o m apos) [] [] pos) (L2H.tMethH C m sp E ta tNil) := by
  refine ⟨fun pins s σ H Q I h => ?_⟩
  refine PySem.W.methodCall_KW (pl := pl) (wpAny_mono (he.run pins s σ H _ I h) (fun u s1 z => ?_) fun _ _ z => z) ht
  obtain ⟨x, H1, I1, rx, a, dx, fs, ex, ea, l, q⟩ := z
  subst ex
  obtain rfl : u = Value.ref a := rx
  refine getmeth_ok I1 ea c hm l ?_
  exact PySem.W.callWith_K0 I1.kIn hm.kp (run_fnS (us := [.ref a]) (vs := [.ref a]) F hr hb (hx σ) I1 (.cons rfl .nil) q)
end
theorem acts_no {v : V} {m : Str} (h : ¬ m = "_acts") : ([("_acts", v)] : List (Str × V)).lookup m = none := by
  have e : ([("_acts", v)] : List (Str × V)) = putF "_acts" v [] := rfl
  rw [e, lookup_putF, if_neg h]
  rfl
/-! ### the calls that the law makes -/
inductive Cl where
  | st (a : Ac)
  | ru (u l : Str) (n : Int) (ts : List Tm) (ps : List (Str × Int))
  | ba
  | fo (z : Str)
def CallAt (C : Addr) (H : Hp) (t : Addr) : Cl → Prop
  | .st a => AcM H (.ref t) a ∧ a.isRu = false ∧ a.nm.cps.toList.length ≤ 900
  | .ru u l n ts ps => (∃ x wv, CallRu C H t u l x n ts ps wv) ∧ ts.length ≤ 900 ∧ ps.length ≤ 900 ∧ NmsOk ts
  | .ba => H t = some (.tup [.str "back"])
  | .fo z => H t = some (.tup [.str "form", .str z]) ∧ z.cps.toList.length ≤ 900
def dueC (as : List Ac) : Cl → Option Er
  | .st a => stepDue as a
  | .ru u l _ ts ps => ruleDue as u l ts ps
  | .ba => match as with
    | [] => some .emp
    | _ :: _ => none
  | .fo z => match endsOf as z with
    | none => some (.nam 2 z)
    | some _ => none
def nextC (as : List Ac) : Cl → List Ac
  | .st a => as ++ [a]
  | .ru u l n ts ps => as ++ [.ru u l n ts (srtP ps)]
  | .ba => as.dropLast
  | .fo _ => as
def RetAt (C : Addr) (H : Hp) (v : V) (as : List Ac) : Cl → Prop
  | .st (.me w lo hi) => ∃ f, v = .ref f ∧ FormAt C H f 0 [⟨w, 1, lo, hi⟩]
  | .st _ => v = .non
  | .ru _ _ _ _ _ => v = .non
  | .ba => ∃ a, as.getLast? = some a ∧ AcR C H v a
  | .fo z => ∃ f lo hi, v = .ref f ∧ endsOf as z = some (lo, hi) ∧ FormAt C H f 0 [⟨z, 1, lo, hi⟩]
/-- what holds of each card -/
structure GoodC (as : List Ac) : Prop where
  nd : (namesOf as).Nodup
  me : ∀ w lo hi, Ac.me w lo hi ∈ as → okS w = true ∧ lo ≤ hi
  tu : ∀ w k, Ac.tu w k ∈ as → okS w = true
  m : kindN as "measure" ≤ 6
  t : kindN as "turn" ≤ 3
  p : kindN as "part" ≤ 6
  r : (rulesOf as).length ≤ 80
theorem len_sum : ∀ as : List Ac, as.length = kindN as "measure" + kindN as "turn" + kindN as "part" + (rulesOf as).length
  | [] => rfl
  | a :: r => by
    have ih := len_sum r
    unfold kindN rulesOf at ih ⊢
    rw [List.length_cons, List.filterMap_cons, List.filter_cons, List.filter_cons, List.filter_cons, ih]
    cases a with
    | me w lo hi =>
      have e1 : decide ((Ac.me w lo hi).lab = "measure") = true := by show decide (Str.ofString "measure" = Str.ofString "measure") = true; decide
      have e2 : decide ((Ac.me w lo hi).lab = "turn") = false := by show decide (Str.ofString "measure" = Str.ofString "turn") = false; decide
      have e3 : decide ((Ac.me w lo hi).lab = "part") = false := by show decide (Str.ofString "measure" = Str.ofString "part") = false; decide
      rw [e1, e2, e3]
      show _ = (_ :: _).length + _ + _ + (r.filterMap aRu).length
      rw [List.length_cons]
      simp only [Bool.false_eq_true, if_false]
      omega
    | tu w k =>
      have e1 : decide ((Ac.tu w k).lab = "measure") = false := by show decide (Str.ofString "turn" = Str.ofString "measure") = false; decide
      have e2 : decide ((Ac.tu w k).lab = "turn") = true := by show decide (Str.ofString "turn" = Str.ofString "turn") = true; decide
      have e3 : decide ((Ac.tu w k).lab = "part") = false := by show decide (Str.ofString "turn" = Str.ofString "part") = false; decide
      rw [e1, e2, e3]
      show _ = _ + (_ :: _).length + _ + (r.filterMap aRu).length
      rw [List.length_cons]
      simp only [Bool.false_eq_true, if_false]
      omega
    | pa w =>
      have e1 : decide ((Ac.pa w).lab = "measure") = false := by show decide (Str.ofString "part" = Str.ofString "measure") = false; decide
      have e2 : decide ((Ac.pa w).lab = "turn") = false := by show decide (Str.ofString "part" = Str.ofString "turn") = false; decide
      have e3 : decide ((Ac.pa w).lab = "part") = true := by show decide (Str.ofString "part" = Str.ofString "part") = true; decide
      rw [e1, e2, e3]
      show _ = _ + _ + (_ :: _).length + (r.filterMap aRu).length
      rw [List.length_cons]
      simp only [Bool.false_eq_true, if_false]
      omega
    | ru u l n ts ps =>
      have e1 : decide ((Ac.ru u l n ts ps).lab = "measure") = false := by show decide (Str.ofString "rule" = Str.ofString "measure") = false; decide
      have e2 : decide ((Ac.ru u l n ts ps).lab = "turn") = false := by show decide (Str.ofString "rule" = Str.ofString "turn") = false; decide
      have e3 : decide ((Ac.ru u l n ts ps).lab = "part") = false := by show decide (Str.ofString "rule" = Str.ofString "part") = false; decide
      rw [e1, e2, e3]
      show _ = _ + _ + _ + (_ :: r.filterMap aRu).length
      rw [List.length_cons]
      simp only [Bool.false_eq_true, if_false]
      omega
theorem GoodC.len {as : List Ac} (g : GoodC as) : as.length ≤ 95 := by
  have := len_sum as
  have := g.m
  have := g.t
  have := g.p
  have := g.r
  omega
theorem ends_mem {as : List Ac} {z : Str} {lo hi : Int} (h : endsOf as z = some (lo, hi)) : Ac.me z lo hi ∈ as := by
  rw [ends_some] at h
  obtain ⟨a, ha, e⟩ := List.exists_of_findSome?_eq_some h
  cases a with
  | me w l2 h2 =>
    simp only [isMe] at e
    by_cases ew : w = z
    · rw [if_pos ew] at e
      cases e
      subst ew
      exact ha
    · rw [if_neg ew] at e
      cases e
  | _ => cases e
structure CdM (P : Program) (w : World) (K : PySem.W.Frag) (mg : Str → Option Value) (base : Heap) (C D : Addr) (XS : Xs K mg) where
  M1 : Mn K D "measure" "Card.measure" sCme1
  G1 : FnOk P w K mg base (L2N.CX P w) 6 M1.f M1.fd ["self", "name", "low", "high"] (spMe1 C D XS.c)
  kb1 : KBn K M1.fd ["self", "name", "low", "high"] 2 ["low", "high"] (fun us ws => us ++ ws) (fun vs zs => vs ++ zs)
  M2 : Mn K D "turn" "Card.turn" sCtu
  G2 : FnOk P w K mg base (L2N.CX P w) 6 M2.f M2.fd ["self", "name", "options"] (spTu C D XS.c)
  kb2 : KBn K M2.fd ["self", "name", "options"] 2 ["options"] (fun us ws => us ++ ws) (fun vs zs => vs ++ zs)
  M3 : Mf K D "part" "Card.part" sCpa ["self", "name"]
  G3 : FnOk P w K mg base (L2N.CX P w) 6 M3.f M3.fd ["self", "name"] (spPa C D XS.c)
  M4 : Mn K D "rule" "Card.rule" sCru
  G4 : FnOk P w K mg base (L2N.CX P w) 6 M4.f M4.fd ["self", "upper", "lower", "least", "when"] (spRu K C D XS.c)
  kb4 : KBn K M4.fd ["self", "upper", "lower", "least", "when"] 3 ["least", "when"] (fun us ws => us ++ ws) (fun vs zs => vs ++ zs)
  dW : Addr
  hW : ∀ H, SqT K H dW []
  g0 : List Value → List Value → List Value
  kb40 : KBn K M4.fd ["self", "upper", "lower", "least", "when"] 3 ["least"] g0 (fun vs zs => vs ++ zs ++ [.ref dW])
  M5 : Mf K D "back" "Card.back" sCba ["self"]
  G5 : FnOk P w K mg base (L2N.CX P w) 1 M5.f M5.fd ["self"] (spBa C D XS.c)
  M6 : Mf K D "form" "Card.form" sCfo ["self", "name"]
  G6 : FnOk P w K mg base (L2N.CX P w) 6 M6.f M6.fd ["self", "name"] (spFo C D XS.c)
abbrev sCal : Stmt := top 53
theorem scCal : FnScope ["_law_card", "_law_call_here"] ["_law_card", "_law_call_here"] (defScope sCal) := ⟨rfl, rfl, rfl, by decide +kernel, rfl, by decide +kernel, by decide +kernel⟩
def spCal (C D : Addr) (xc : Nat → Addr) : Sp := fun vs H Q E => ∃ (p L t : Addr) (as : List Ac) (c : Cl), vs = [.ref p, .ref t] ∧ CardP D H p L ∧ ActsR C H L as ∧ GoodC as ∧ CallAt C H t c ∧ (∀ e, dueC as c = some e → Thr E xc H e) ∧ (dueC as c = none → ∀ v H', Kp L H H' → ActsR C H' L (nextC as c) → RetAt C H' v as c → Q v H')
theorem ok_cal {C D : Addr} {XS : Xs K mg} (DF : Df K mg "_law_call" sCal ["_law_card", "_law_call_here"]) (T : Crd K mg D) (CM : CdM P w K mg base C D XS) (mln : mg "len" = none) : FnOk P w K mg base (L2N.CX P w) 7 DF.f DF.fd ["_law_card", "_law_call_here"] (spCal C D XS.c) := by
  refine okN DF.fn scCal (fun vs H Q E h => ?_) (fun cdv A outer s H vs Q E hr h => ?_)
  · obtain ⟨p, L, t, as, c, rfl, _⟩ := h
    rfl
  · obtain ⟨p, L, t, as, c, rfl, hp, hA, hg, hc, kx, k⟩ := h
    obtain ⟨dx, hp'⟩ := id hp
    have hlen := hg.len
    refine ⟨_, (pss_cons (ps_if (pt_cmpR op_eq (pe_ix (show IxR _ (rIxT K) from ix_tup) (pv 1) pe_int (fun _ _ => rfl)) pe_str (nomark _))
      (pss_one (ps_ret (pe_methKS (pv 0) T.cl CM.M1.me CM.G1 (hr.mono (by decide)) CM.kb1 (L2N.passAt (L2N.takes_of rfl rfl rfl rfl)) (pa_cons (pe_ix (show IxR _ (rIxT K) from ix_tup) (pv 1) pe_int (fun _ _ => rfl)) pa_nil) (pk_cons (pe_ix (show IxR _ (rIxT K) from ix_tup) (pv 1) pe_int (fun _ _ => rfl)) (pk_cons (pe_ix (show IxR _ (rIxT K) from ix_tup) (pv 1) pe_int (fun _ _ => rfl)) pk_nil)))))
      pss_nil)
      (pss_cons (ps_if (pt_cmpR op_eq (pe_ix (show IxR _ (rIxT K) from ix_tup) (pv 1) pe_int (fun _ _ => rfl)) pe_str (nomark _))
      (pss_one (ps_ret (pe_methKS (pv 0) T.cl CM.M2.me CM.G2 (hr.mono (by decide)) CM.kb2 (L2N.passAt (L2N.takes_of rfl rfl rfl rfl)) (pa_cons (pe_ix (show IxR _ (rIxT K) from ix_tup) (pv 1) pe_int (fun _ _ => rfl)) pa_nil) (pk_cons (pe_ix (show IxR _ (rIxT K) from ix_tup) (pv 1) pe_int (fun _ _ => rfl)) pk_nil))))
      pss_nil)
      (pss_cons (ps_if (pt_cmpR op_eq (pe_ix (show IxR _ (rIxT K) from ix_tup) (pv 1) pe_int (fun _ _ => rfl)) pe_str (nomark _))
      (pss_one (ps_ret (pe_methE (pv 0) T.cl CM.M3.me CM.G3 (hr.mono (by decide)) CM.M3.bd (L2N.passAt (L2N.takes_of rfl rfl rfl rfl)) (pa_cons (pe_ix (show IxR _ (rIxT K) from ix_tup) (pv 1) pe_int (fun _ _ => rfl)) pa_nil))))
      pss_nil)
      (pss_cons (ps_if (PW.pt (pw_and (pt_cmpR op_eq (pe_ix (show IxR _ (rIxT K) from ix_tup) (pv 1) pe_int (fun _ _ => rfl)) pe_str (nomark _)) (pw_and1 (pt_cmpR op_eq (pe_callB call_len_seq (by rfl) mln PySem.boot_len (pa_cons (pe_ix (show IxR _ (rIxT K) from ix_tup) (pv 1) pe_int (fun _ _ => rfl)) pa_nil)) pe_int (nomark _)))))
      (pss_one (ps_ret (pe_methKS (pv 0) T.cl CM.M4.me CM.G4 (hr.mono (by decide)) CM.kb40 (L2N.passAt (L2N.takes_of rfl rfl rfl rfl)) (pa_cons (pe_ix (show IxR _ (rIxT K) from ix_tup) (pv 1) pe_int (fun _ _ => rfl)) (pa_cons (pe_ix (show IxR _ (rIxT K) from ix_tup) (pv 1) pe_int (fun _ _ => rfl)) pa_nil)) (pk_cons (pe_ix (show IxR _ (rIxT K) from ix_tup) (pv 1) pe_int (fun _ _ => rfl)) pk_nil))))
      pss_nil)
      (pss_cons (ps_if (pt_cmpR op_eq (pe_ix (show IxR _ (rIxT K) from ix_tup) (pv 1) pe_int (fun _ _ => rfl)) pe_str (nomark _))
      (pss_one (ps_ret (pe_methKS (pv 0) T.cl CM.M4.me CM.G4 (hr.mono (by decide)) CM.kb4 (L2N.passAt (L2N.takes_of rfl rfl rfl rfl)) (pa_cons (pe_ix (show IxR _ (rIxT K) from ix_tup) (pv 1) pe_int (fun _ _ => rfl)) (pa_cons (pe_ix (show IxR _ (rIxT K) from ix_tup) (pv 1) pe_int (fun _ _ => rfl)) pa_nil)) (pk_cons (pe_ix (show IxR _ (rIxT K) from ix_tup) (pv 1) pe_int (fun _ _ => rfl)) (pk_cons (pe_ix (show IxR _ (rIxT K) from ix_tup) (pv 1) pe_int (fun _ _ => rfl)) pk_nil)))))
      pss_nil)
      (pss_cons (ps_if (pt_cmpR op_eq (pe_ix (show IxR _ (rIxT K) from ix_tup) (pv 1) pe_int (fun _ _ => rfl)) pe_str (nomark _))
      (pss_one (ps_ret (pe_methE0 (pv 0) T.cl CM.M5.me CM.G5 (hr.mono (by decide)) CM.M5.bd (L2N.passAt (L2N.takes_of rfl rfl rfl rfl)))))
      pss_nil)
      (pss_one (ps_ret (pe_methE (pv 0) T.cl CM.M6.me CM.G6 (hr.mono (by decide)) CM.M6.bd (L2N.passAt (L2N.takes_of rfl rfl rfl rfl)) (pa_cons (pe_ix (show IxR _ (rIxT K) from ix_tup) (pv 1) pe_int (fun _ _ => rfl)) pa_nil)))))))))), ?_⟩
    have rd : ∀ (H : Hp) (xs : List V), True := fun _ _ => trivial
    cases c with
    | st a =>
      obtain ⟨ha, hno, hz⟩ := hc
      cases a with
      | ru u l n ts ps => cases hno
      | me w0 lo hi =>
        obtain ⟨t', xs, e', ht, rfl⟩ := ha
        cases e'
        refine ⟨_, rfl, t, _, 0, .str "measure", rfl, rfl, sql_ofT ht, at0, rfl, _, rfl, iteT' (by decide) ?_⟩
        refine ⟨_, rfl, p, dx, _, rfl, hp', (acts_no (by decide)), _, rfl, t, _, 1, .str w0, rfl, rfl, sql_ofT ht, rfl, _, rfl, t, _, 2, .int lo, rfl, rfl, sql_ofT ht, rfl, _, rfl, t, _, 3, .int hi, rfl, rfl, sql_ofT ht, rfl, rfl, rfl, p, L, as, w0, lo, hi, rfl, hp, hA, (by omega), hz, kx, fun hn f H1 k1 hf hA1 => ?_⟩
        exact k hn (.ref f) H1 k1 hA1 ⟨f, rfl, hf⟩
      | tu w0 n0 =>
        obtain ⟨t', xs, e', ht, rfl⟩ := ha
        cases e'
        refine ⟨_, rfl, t, _, 0, .str "turn", rfl, rfl, sql_ofT ht, at0, rfl, _, rfl, iteF' (by decide) ?_⟩
        refine ⟨_, rfl, t, _, 0, .str "turn", rfl, rfl, sql_ofT ht, at0, rfl, _, rfl, iteT' (by decide) ?_⟩
        refine ⟨_, rfl, p, dx, _, rfl, hp', (acts_no (by decide)), _, rfl, t, _, 1, .str w0, rfl, rfl, sql_ofT ht, rfl, _, rfl, t, _, 2, .int n0, rfl, rfl, sql_ofT ht, rfl, rfl, rfl, p, L, as, w0, n0, rfl, hp, hA, (by omega), hz, kx, fun hn H1 k1 hA1 => ?_⟩
        exact k hn .non H1 k1 hA1 rfl
      | pa w0 =>
        obtain ⟨t', xs, e', ht, rfl⟩ := ha
        cases e'
        refine ⟨_, rfl, t, _, 0, .str "part", rfl, rfl, sql_ofT ht, at0, rfl, _, rfl, iteF' (by decide) ?_⟩
        refine ⟨_, rfl, t, _, 0, .str "part", rfl, rfl, sql_ofT ht, at0, rfl, _, rfl, iteF' (by decide) ?_⟩
        refine ⟨_, rfl, t, _, 0, .str "part", rfl, rfl, sql_ofT ht, at0, rfl, _, rfl, iteT' (by decide) ?_⟩
        refine ⟨_, rfl, p, dx, _, rfl, hp', (acts_no (by decide)), _, rfl, t, _, 1, .str w0, rfl, rfl, sql_ofT ht, rfl, p, L, as, w0, rfl, hp, hA, (by omega), hz, kx, fun hn H1 k1 hA1 => ?_⟩
        exact k hn .non H1 k1 hA1 rfl
    | ru u l n ts ps =>
      obtain ⟨⟨x, wv, ⟨mf, pl, us, ht, hmf, hpl, hps⟩, hop, hwh⟩, hts, hpz, hnok⟩ := hc
      refine ⟨_, rfl, t, _, 0, .str "rule", rfl, rfl, sql_ofT ht, at0, rfl, _, rfl, iteF' (by decide) ?_⟩
      refine ⟨_, rfl, t, _, 0, .str "rule", rfl, rfl, sql_ofT ht, at0, rfl, _, rfl, iteF' (by decide) ?_⟩
      refine ⟨_, rfl, t, _, 0, .str "rule", rfl, rfl, sql_ofT ht, at0, rfl, _, rfl, iteF' (by decide) ?_⟩
      refine ⟨_, rfl, t, _, 0, .str "rule", rfl, rfl, sql_ofT ht, at0, rfl, _, rfl, iteT' (by decide) ?_⟩
      refine ⟨_, rfl, t, _, 5, .ref pl, rfl, rfl, sql_ofT ht, rfl, _, _, rfl, .inl (sql_of hpl), rfl, _, rfl, ite2 (fun e => ?_) (fun e => ?_)⟩
      · have e0 : us.length = 0 := by
          have := V.int.inj (of_decide_eq_true e)
          omega
        have hp0 : ps = [] := List.eq_nil_of_length_eq_zero (hps.len ▸ e0)
        subst hp0
        refine ⟨_, rfl, p, dx, _, rfl, hp', (acts_no (by decide)), _, rfl, t, _, 1, .str u, rfl, rfl, sql_ofT ht, rfl, _, rfl, t, _, 2, .str l, rfl, rfl, sql_ofT ht, rfl, _, rfl, t, _, 3, x, rfl, rfl, sql_ofT ht, rfl, rfl, rfl, p, L, CM.dW, as, u, l, x, n, ts, [], rfl, hp, hA, (by omega), hg.nd, hop, hts, ⟨[], .inr (CM.hW _), .nil⟩, (by decide), kx, fun hn H1 k1 hA1 => ?_⟩
        exact k hn .non H1 k1 hA1 rfl
      · refine ⟨_, rfl, t, _, 0, .str "rule", rfl, rfl, sql_ofT ht, at0, rfl, _, rfl, iteT' (by decide) ?_⟩
        obtain ⟨us2, hw1, hw2⟩ := hwh
        refine ⟨_, rfl, p, dx, _, rfl, hp', (acts_no (by decide)), _, rfl, t, _, 1, .str u, rfl, rfl, sql_ofT ht, rfl, _, rfl, t, _, 2, .str l, rfl, rfl, sql_ofT ht, rfl, _, rfl, t, _, 3, x, rfl, rfl, sql_ofT ht, rfl, _, rfl, t, _, 6, .ref wv, rfl, rfl, sql_ofT ht, rfl, rfl, rfl, p, L, wv, as, u, l, x, n, ts, ps, rfl, hp, hA, (by omega), hg.nd, hop, hts, ⟨us2, hw1.imp sql_of sql_ofT, hw2⟩, hpz, kx, fun hn H1 k1 hA1 => ?_⟩
        exact k hn .non H1 k1 hA1 rfl
    | ba =>
      refine ⟨_, rfl, t, _, 0, .str "back", rfl, rfl, sql_ofT hc, at0, rfl, _, rfl, iteF' (by decide) ?_⟩
      refine ⟨_, rfl, t, _, 0, .str "back", rfl, rfl, sql_ofT hc, at0, rfl, _, rfl, iteF' (by decide) ?_⟩
      refine ⟨_, rfl, t, _, 0, .str "back", rfl, rfl, sql_ofT hc, at0, rfl, _, rfl, iteF' (by decide) ?_⟩
      refine ⟨_, rfl, t, _, 0, .str "back", rfl, rfl, sql_ofT hc, at0, rfl, _, rfl, iteF' (by decide) ?_⟩
      refine ⟨_, rfl, t, _, 0, .str "back", rfl, rfl, sql_ofT hc, at0, rfl, _, rfl, iteF' (by decide) ?_⟩
      refine ⟨_, rfl, t, _, 0, .str "back", rfl, rfl, sql_ofT hc, at0, rfl, _, rfl, iteT' (by decide) ?_⟩
      refine ⟨_, rfl, p, dx, _, rfl, hp', (acts_no (by decide)), p, L, as, rfl, hp, hA, fun e => kx .emp (by subst e; rfl), fun a hla v H1 k1 ha hA1 => ?_⟩
      refine k ?_ v H1 k1 hA1 ⟨a, hla, ha⟩
      cases as with
      | nil => cases hla
      | cons _ _ => rfl
    | fo z =>
      obtain ⟨hc, hz⟩ := hc
      refine ⟨_, rfl, t, _, 0, .str "form", rfl, rfl, sql_ofT hc, at0, rfl, _, rfl, iteF' (by decide) ?_⟩
      refine ⟨_, rfl, t, _, 0, .str "form", rfl, rfl, sql_ofT hc, at0, rfl, _, rfl, iteF' (by decide) ?_⟩
      refine ⟨_, rfl, t, _, 0, .str "form", rfl, rfl, sql_ofT hc, at0, rfl, _, rfl, iteF' (by decide) ?_⟩
      refine ⟨_, rfl, t, _, 0, .str "form", rfl, rfl, sql_ofT hc, at0, rfl, _, rfl, iteF' (by decide) ?_⟩
      refine ⟨_, rfl, t, _, 0, .str "form", rfl, rfl, sql_ofT hc, at0, rfl, _, rfl, iteF' (by decide) ?_⟩
      refine ⟨_, rfl, t, _, 0, .str "form", rfl, rfl, sql_ofT hc, at0, rfl, _, rfl, iteF' (by decide) ?_⟩
      refine ⟨_, rfl, p, dx, _, rfl, hp', (acts_no (by decide)), _, rfl, t, _, 1, .str z, rfl, rfl, sql_ofT hc, rfl, p, L, as, z, rfl, hp, hA, hz, fun lo hi he => hg.me z lo hi (ends_mem he), fun he => kx (.nam 2 z) (by show (match endsOf as z with | none => some (Er.nam 2 z) | some _ => none) = _; rw [he]), fun lo hi he f H1 s1 hf => ?_⟩
      exact k (by show (match endsOf as z with | none => some (Er.nam 2 z) | some _ => none) = _; rw [he]) (.ref f) H1 (Kp.same s1) (hA.same s1) ⟨f, lo, hi, rfl, he, hf⟩
end
end DO

namespace DO
open PySem PySem.Spec PyProof.Rows L2
section
variable {P : Program} {w : World} {K : PySem.W.Frag} {mg : Str → Option Value} {base : Heap}
/-! ### pairs in order, by the law -/
abbrev sPio : Stmt := top 54
theorem get_one {ps : List (Str × Int)} (hn : (ps.map (·.1)).Nodup) (w : Str) : ps.filterMap (fun p => if p.1 = w then some p else none) = (getP ps w).toList := by
  induction ps with
  | nil => rfl
  | cons a r ih =>
    rw [List.map_cons, List.nodup_cons] at hn
    have ih2 := ih hn.2
    rw [List.filterMap_cons]
    by_cases e : a.1 = w
    · have e2 : getP (a :: r) w = some a := by
        unfold getP
        rw [List.find?_cons, decide_eq_true e]
      have e3 : getP r w = none := by
        unfold getP
        rw [List.find?_eq_none]
        intro b hb z
        exact hn.1 (List.mem_map.mpr ⟨b, hb, (of_decide_eq_true z).trans e.symm⟩)
      rw [if_pos e, e2, ih2, e3]
      rfl
    · have e2 : getP (a :: r) w = getP r w := by
        unfold getP
        rw [List.find?_cons, decide_eq_false e]
      rw [if_neg e, e2, ih2]
theorem scPio : FnScope ["_law_pairs", "_law_found", "_law_word_here", "_law_pair"] ["_law_pairs"] (defScope sPio) := ⟨rfl, rfl, rfl, by decide +kernel, rfl, by decide +kernel, by decide +kernel⟩
def spPio : Sp := fun vs H Q _ => ∃ (pl : Addr) (us : List V) (ps : List (Str × Int)), vs = [.ref pl] ∧ H pl = some (.lst us) ∧ PAll H us ps ∧ (ps.map (·.1)).Nodup ∧ ps.length ≤ 900 ∧ ∀ t zs H', H' t = some (.tup zs) → PAll H' zs (srtP ps) → Same H H' → Q (.ref t) H'
theorem ok_pio (D : Df K mg "_law_pairs_in_order" sPio ["_law_pairs"]) (mso : mg "sorted" = none) (mst : mg "str" = none) (mtu : mg "tuple" = none) : FnOk P w K mg base CX0 1 D.f D.fd ["_law_pairs"] spPio := by
  refine D.fn.ok scPio (fun vs H Q E h => ?_) (fun cdv A outer s0 H vs Q E hr h => ?_)
  · obtain ⟨pl, us, ps, rfl, _⟩ := h
    rfl
  · obtain ⟨pl, us, ps, rfl, hpl, hps, hnd, hz, k⟩ := h
    have hu := hu_of hr
    have hu2 : (A.deeper (envOfC "_law_pairs_in_order" (defScope sPio) s0.heap.objs.size D.f cdv)).units + 2 < cLine := Nat.lt_of_le_of_lt (Nat.add_le_add_left (by decide : 2 ≤ 64) _) hr.units
    refine ⟨_, (pss_cons (ps_set (i := 1) scPio.nd rfl (.inl rfl) (pe_lst pa_nil))
      (pss_cons (ps_for PassesOwn.never rfl (pi_list (pe_callB (cr_sortedT hu2) (by rfl) mso (by decide +kernel) (pa_cons (pe_lc (own := [("_law_pair", 3)]) (g := gName 3) (tt := tYes) rfl scPio.nd (pi_list (pv 0)) (blkOk_by (N := ["_law_pairs", "_law_found", "_law_word_here", "_law_pair"]) (sc := defScope sPio) (by decide +kernel)) (fun _ _ _ _ _ => pg_name (i := 3) scPio.nd rfl (Or.inl rfl)) (fun _ _ _ _ _ => pts_nil) (fun _ _ _ _ _ => (pe_callTy SkE.call_str_str (by rfl) mst (by decide +kernel) (pa_cons (pe_ix (show IxR _ (rIxT K) from ix_tup) (pv 3) pe_int (fun _ _ => rfl)) pa_nil)))) pa_nil))) (pg_name (i := 2) scPio.nd rfl (Or.inr rfl))
      (pss_one (ps_set (i := 1) scPio.nd rfl (.inl rfl) (pe_op op_cat (pv 1) (pe_lc (own := [("_law_pair", 3)]) (g := gName 3) (tt := _) rfl scPio.nd (pi_list (pv 0)) (blkOk_by (N := ["_law_pairs", "_law_found", "_law_word_here", "_law_pair"]) (sc := defScope sPio) (by decide +kernel)) (fun _ _ _ _ _ => pg_name (i := 3) scPio.nd rfl (Or.inl rfl)) (fun _ _ _ _ _ => pts_one (pt_cmpR op_eq (pe_ix (show IxR _ (rIxT K) from ix_tup) (pv 3) pe_int (fun _ _ => rfl)) (pv 2) (nomark _))) (fun _ _ _ _ _ => (pv 3)))))))
      (pss_one (ps_ret (pe_callTy call_tuple_of (by rfl) mtu (by decide +kernel) (pa_cons (pv 1) pa_nil)))))), ?_⟩
    have hl := hps.len
    refine ⟨(by show 0 ≤ sizeLine; decide), fun F nF => ?_⟩
    have sF := same_upd (o := .lst []) nF
    have hF : (upd H F (.lst [])) F = some (.lst []) := upd_same
    generalize (upd H F (.lst [])) = H1 at sF hF
    have hpl1 := sF _ _ hpl
    have hps1 := hps.kt (.same sF)
    refine ⟨_, rfl, pl, rfl, ⟨_, sql_of hpl1⟩, fun E1 nE => ?_⟩
    refine lc_pick walk_list ps (fun p => some p.1) (fun _ v (z : Str) => v = .str z) (fun _ _ _ _ _ z => z) nE (fun H2 s2 => sql_of (s2 _ _ hpl1)) hl (by omega) (fun i x c H2 Yes No hx hc s2 hY hN => ?_) (fun H2 zs hE hZ s2 => ?_)
    · obtain ⟨c', hc', t, rfl, ht⟩ := hps1.at_ hx
      obtain rfl : c' = c := Option.some.inj (hc'.symm.trans hc)
      exact ⟨rfl, _, rfl, t, _, 0, .str c'.1, rfl, rfl, sql_ofT (s2 _ _ ht), at0, c'.1, rfl, hY _ _ _ rfl (.refl _) rfl⟩
    have ez : zs = (ps.map (·.1)).map V.str := by
      refine strs_list (H := H2) ?_
      rw [← List.filterMap_eq_map]
      exact hZ
    subst ez
    refine ⟨E1, ps.map (·.1), rfl, sql_of hE, fun ol no => ?_⟩
    have so := same_upd (o := .lst (((ps.map (·.1)).mergeSort leT).map V.str)) no
    have hO : (upd H2 ol (.lst (((ps.map (·.1)).mergeSort leT).map V.str))) ol = some (.lst ((sortS (ps.map (·.1))).map V.str)) := upd_same
    have s3 := s2.trans so
    generalize (upd H2 ol (.lst (((ps.map (·.1)).mergeSort leT).map V.str))) = H3 at hO s3
    have hol : (sortS (ps.map (·.1))).length = ps.length := by rw [(sortS_perm _).length_eq, List.length_map]
    have hF3 := s3 _ _ hF
    have hpl3 := s3 _ _ hpl1
    have hps3 := hps1.kt (.same s3)
    refine ⟨ol, rfl, ⟨_, sql_of hO⟩, for_list (K := K) (a := ol) (xs := (sortS (ps.map (·.1))).map V.str) (fun i σ H4 => ∃ G xs x2, σ = [some (.ref pl), some (.ref G), x2, none] ∧ H4 G = some (.lst xs) ∧ PAll H4 xs (((sortS (ps.map (·.1))).take i).filterMap (getP ps)) ∧ Same H3 H4) ⟨F, [], none, rfl, hF3, .nil, .refl _⟩ (fun i σ H4 _ ⟨_, _, _, _, _, _, z⟩ => sql_of (z _ _ hO)) ?_ ?_⟩
    · rintro i y σ H4 hi ⟨G, xs, x2, rfl, hG, hX, s4⟩
      have hil : i < (sortS (ps.map (·.1))).length := by
        have := (List.getElem?_eq_some_iff.mp hi).1
        rw [List.length_map] at this
        exact this
      have hc : (sortS (ps.map (·.1)))[i]? = some (sortS (ps.map (·.1)))[i] := List.getElem?_eq_getElem hil
      generalize (sortS (ps.map (·.1)))[i] = c at hc
      rw [List.getElem?_map, hc] at hi
      obtain rfl := Option.some.inj hi
      have hpl4 := s4 _ _ hpl3
      have hps4 := hps3.kt (.same s4)
      refine ⟨_, rfl, _, rfl, pl, rfl, ⟨_, sql_of hpl4⟩, fun E2 nE2 => ?_⟩
      refine lc_pick walk_list ps (fun p => if p.1 = c then some p else none) PairT (fun _ _ _ _ q z => z.kt q) nE2 (fun H2 s2 => sql_of (s2 _ _ hpl4)) hl (by omega) (fun i x d H5 Yes No hx hd s5 hY hN => ?_) (fun H5 zs hE2 hZ2 s5 => ?_)
      · obtain ⟨d', hd', t, rfl, ht⟩ := hps4.at_ hx
        obtain rfl : d' = d := Option.some.inj (hd'.symm.trans hd)
        refine ⟨rfl, _, rfl, t, _, 0, .str d'.1, rfl, rfl, sql_ofT (s5 _ _ ht), at0, _, rfl, rfl, _, rfl, ite2 (fun e => ?_) (fun e => ?_)⟩
        · exact ⟨_, rfl, hY _ _ d' (if_pos (V.str.inj (of_decide_eq_true e))) (.refl _) ⟨t, rfl, s5 _ _ ht⟩⟩
        · exact hN _ (if_neg fun z => e (decide_eq_true (congrArg V.str z))) (.refl _)
      have tk : ((sortS (ps.map (·.1))).take (i + 1)).filterMap (getP ps) = ((sortS (ps.map (·.1))).take i).filterMap (getP ps) ++ (getP ps c).toList := by
        rw [List.take_add_one, hc, Option.toList_some, List.filterMap_append]
        congr 1
      rw [get_one hnd] at hZ2
      have hl1 := hX.len
      have hl2 : (((sortS (ps.map (·.1))).take i).filterMap (getP ps)).length ≤ 900 := Nat.le_trans (List.length_filterMap_le _ _) (by rw [List.length_take]; omega)
      have hl3 : zs.length ≤ 1 := by
        rw [hZ2.len]
        cases getP ps c <;> simp
      refine ⟨G, E2, _, _, rfl, rfl, s5 _ _ hG, hE2, sz16 (by omega), fun G2 nG2 => ?_⟩
      have s6 := same_upd (o := .lst (xs ++ zs)) nG2
      refine ⟨G2, _, _, rfl, upd_same, ?_, (s4.trans s5).trans s6⟩
      rw [tk]
      exact (hX.kt (.same (s5.trans s6))).app (hZ2.mono fun _ _ z => z.kt (.same s6))
    · rintro σ H4 ⟨G, xs, x2, rfl, hG, hX, s4⟩
      rw [List.take_of_length_le (by rw [List.length_map]; omega)] at hX
      refine ⟨_, rfl, G, xs, rfl, .inl ⟨sql_of hG, fun t nt => ?_⟩⟩
      have st := same_upd (o := .tup xs) nt
      exact k t xs _ upd_same (hX.kt (.same st)) ((sF.trans (s3.trans s4)).trans st)
/-! ### the act of a call -/
abbrev sAct : Stmt := top 55
theorem scAct : FnScope ["_law_call_here"] ["_law_call_here"] (defScope sAct) := ⟨rfl, rfl, rfl, by decide +kernel, rfl, by decide +kernel, by decide +kernel⟩
def spAct (C : Addr) : Sp := fun vs H Q _ => ∃ (t : Addr) (c : Cl), vs = [.ref t] ∧ CallAt C H t c ∧ match c with
  | .st _ => Q (.ref t) H
  | .ru u l n ts ps => (ps.map (·.1)).Nodup ∧ ∀ v H', Same H H' → AcM H' v (.ru u l n ts (srtP ps)) → Q v H'
  | _ => False
theorem ok_act {C : Addr} (D : Df K mg "_law_act" sAct ["_law_call_here"]) (PO : Fk P w K mg base 1 "_law_pairs_in_order" sPio ["_law_pairs"] spPio) : FnOk P w K mg base CX0 2 D.f D.fd ["_law_call_here"] (spAct C) := by
  refine D.fn.ok scAct (fun vs H Q E h => ?_) (fun cdv A outer s0 H vs Q E hr h => ?_)
  · obtain ⟨t, c, rfl, _⟩ := h
    rfl
  · obtain ⟨t, c, rfl, hc, k⟩ := h
    refine ⟨_, (pss_cons (ps_if (pt_cmpR op_eq (pe_ix (show IxR _ (rIxT K) from ix_tup) (pv 0) pe_int (fun _ _ => rfl)) pe_str (nomark _))
      (pss_one (ps_ret (pe_tup (pa_cons pe_str (pa_cons (pe_ix (show IxR _ (rIxT K) from ix_tup) (pv 0) pe_int (fun _ _ => rfl)) (pa_cons (pe_ix (show IxR _ (rIxT K) from ix_tup) (pv 0) pe_int (fun _ _ => rfl)) (pa_cons (pe_ix (show IxR _ (rIxT K) from ix_tup) (pv 0) pe_int (fun _ _ => rfl)) (pa_cons (pe_call PO.G (hr.mono (by decide)) (by rfl) PO.D.mgf PO.D.fn.kp PO.D.bd .nil pass0 (pa_cons (pe_ix (show IxR _ (rIxT K) from ix_tup) (pv 0) pe_int (fun _ _ => rfl)) pa_nil)) pa_nil))))))))
      pss_nil)
      (pss_one (ps_ret (pv 0)))), ?_⟩
    cases c with
    | st a =>
      obtain ⟨t2, xs, e2, ht, _⟩ := hc.1.lab
      cases e2
      refine ⟨_, rfl, t, _, 0, .str a.lab, rfl, rfl, sql_ofT ht, at0, rfl, _, rfl, ?_⟩
      rw [lab_ru, hc.2.1]
      exact iteF' rfl ⟨_, rfl, k⟩
    | ru u l n ts ps =>
      obtain ⟨⟨x, wv, ⟨mf, pl, us, ht, hmf, hpl, hps⟩, hop, hwh⟩, hts, hpz, hnok⟩ := hc
      obtain ⟨hnd, k⟩ := k
      refine ⟨_, rfl, t, _, 0, .str "rule", rfl, rfl, sql_ofT ht, at0, rfl, _, rfl, iteT' (by decide) ?_⟩
      refine ⟨_, rfl, t, _, 1, .str u, rfl, rfl, sql_ofT ht, rfl, _, rfl, t, _, 2, .str l, rfl, rfl, sql_ofT ht, rfl, _, rfl, t, _, 4, .ref mf, rfl, rfl, sql_ofT ht, rfl, _, rfl, t, _, 5, .ref pl, rfl, rfl, sql_ofT ht, rfl, pl, us, ps, rfl, hpl, hps, hnd, hpz, fun q zs H1 hq hzs s1 => ⟨(by show 5 ≤ sizeLine; decide), fun r nr => ?_⟩⟩
      have sr := same_upd (o := .tup [V.str "rule", V.str u, V.str l, V.ref mf, V.ref q]) nr
      exact k (.ref r) _ (s1.trans sr) ⟨r, _, rfl, upd_same, _, rfl, mf, q, zs, rfl, hmf.kt (.same (s1.trans sr)), sr _ _ hq, hzs.kt (.same sr)⟩
    | ba => exact k.elim
    | fo z => exact k.elim
end
end DO

namespace DO
open PySem PySem.Spec PyProof.Rows L2
section
variable {P : Program} {w : World} {K : PySem.W.Frag} {mg : Str → Option Value} {base : Heap}
/-! ### forms, rules, acts held against the law's own -/
abbrev sSfo : Stmt := top 44
theorem scSfo : FnScope ["_law_actual", "_law_own", "_law_mine", "_law_due"] ["_law_actual", "_law_own"] (defScope sSfo) := ⟨rfl, rfl, rfl, by decide +kernel, rfl, by decide +kernel, by decide +kernel⟩
def spSfo (C : Addr) : Sp := fun vs H Q _ => ∃ (p m : Addr) (n : Int) (ts : List Tm), vs = [.ref p, .ref m] ∧ FormAt C H p n ts ∧ ModF H m n ts ∧ NmsOk ts ∧ ∀ H', Same H H' → Q (.bl true) H'
theorem ok_sfo {C : Addr} (TF : Frm K mg C) (D : Df K mg "_law_same_form" sSfo ["_law_actual", "_law_own"]) (IN : Fk P w K mg base 1 "_law_is_number" sIsN ["_law_actual"] spIsN) (mis : mg "isinstance" = none) (mst : mg "str" = none) (mtu : mg "tuple" = none) (mln : mg "len" = none) (mz : mg "zip" = none) : FnOk P w K mg base CX0 2 D.f D.fd ["_law_actual", "_law_own"] (spSfo C) := by
  refine D.fn.ok scSfo (fun vs H Q E h => ?_) (fun cdv A outer s H vs Q E hr h => ?_)
  · obtain ⟨p, m, n, ts, rfl, _⟩ := h
    rfl
  · obtain ⟨p, m, n, ts, rfl, hp, hm, ho, k⟩ := h
    refine ⟨_, (pss_cons (ps_if (PW.pt (pw_or (pt_not (pt_val (pe_callB call_isi (by rfl) mis (by decide +kernel) (pa_cons (pv 0) (pa_cons (pe_glob (v := .ref C) (by rfl) TF.mgC rfl) pa_nil))))) (pw_or (pt_not (pt_val (pe_call IN.G (hr.mono (by decide)) (by rfl) IN.D.mgf IN.D.fn.kp IN.D.bd .nil pass0 (pa_cons (pe_fld (pv 0) rfl) pa_nil)))) (pw_or1 (pt_cmpR op_ne (pe_fld (pv 0) rfl) (pe_ix (show IxR _ (rIxT K) from ix_tup) (pv 1) pe_int (fun _ _ => rfl)) (nomark _))))))
      (pss_one (ps_never))
      pss_nil)
      (pss_cons (ps_if (PW.pt (pw_or (pt_not (pt_val (pe_callB call_isi (by rfl) mis (by decide +kernel) (pa_cons (pe_fld (pv 0) rfl) (pa_cons (pe_bltn (v := .ty "tuple") (by rfl) mtu (by decide +kernel) rfl) pa_nil))))) (pw_or1 (pt_cmpR op_ne (pe_callB call_len_seq (by rfl) mln PySem.boot_len (pa_cons (pe_fld (pv 0) rfl) pa_nil)) (pe_callB call_len_seq (by rfl) mln PySem.boot_len (pa_cons (pe_ix (show IxR _ (rIxT K) from ix_tup) (pv 1) pe_int (fun _ _ => rfl)) pa_nil)) (nomark _)))))
      (pss_one (ps_never))
      pss_nil)
      (pss_cons (ps_for PassesOwn.never rfl (RZ.pi_zipA (by rfl) mz (pa_cons (pe_fld (pv 0) rfl) (pa_cons (pe_ix (show IxR _ (rIxT K) from ix_tup) (pv 1) pe_int (fun _ _ => rfl)) pa_nil))) (pg_tup rfl (pgs_cons (pg_name (i := 2) scSfo.nd rfl (Or.inl rfl)) (pgs_cons (pg_name (i := 3) scSfo.nd rfl (Or.inl rfl)) pgs_nil)))
      (pss_cons (ps_if (PW.pt (pw_or (pt_not (pt_val (pe_callB call_isi (by rfl) mis (by decide +kernel) (pa_cons (pv 2) (pa_cons (pe_bltn (v := .ty "tuple") (by rfl) mtu (by decide +kernel) rfl) pa_nil))))) (pw_or (pt_cmpR op_ne (pe_callB call_len_seq (by rfl) mln PySem.boot_len (pa_cons (pv 2) pa_nil)) pe_int (nomark _)) (pw_or (pt_cmpR (op_neD hr.units) (pv 2) (pv 3) (nomark _)) (pw_or1 (pt_not (pt_val (pe_callB call_isi (by rfl) mis (by decide +kernel) (pa_cons (pe_ix (show IxR _ (rIxT K) from ix_tup) (pv 2) pe_int (fun _ _ => rfl)) (pa_cons (pe_bltn (v := .ty "str") (by rfl) mst (by decide +kernel) rfl) pa_nil))))))))))
      (pss_one (ps_never))
      pss_nil)
      (pss_one (ps_if (PW.pt (pw_or (pt_not (pt_val (pe_call IN.G (hr.mono (by decide)) (by rfl) IN.D.mgf IN.D.fn.kp IN.D.bd .nil pass0 (pa_cons (pe_ix (show IxR _ (rIxT K) from ix_tup) (pv 2) pe_int (fun _ _ => rfl)) pa_nil)))) (pw_or (pt_not (pt_val (pe_call IN.G (hr.mono (by decide)) (by rfl) IN.D.mgf IN.D.fn.kp IN.D.bd .nil pass0 (pa_cons (pe_ix (show IxR _ (rIxT K) from ix_tup) (pv 2) pe_int (fun _ _ => rfl)) pa_nil)))) (pw_or1 (pt_not (pt_val (pe_call IN.G (hr.mono (by decide)) (by rfl) IN.D.mgf IN.D.fn.kp IN.D.bd .nil pass0 (pa_cons (pe_ix (show IxR _ (rIxT K) from ix_tup) (pv 2) pe_int (fun _ _ => rfl)) pa_nil))))))))
      (pss_one (ps_never))
      pss_nil))))
      (pss_one (ps_ret pe_bl))))), ?_⟩
    obtain ⟨dx, t, us, h1, g2, g3⟩ := id hp
    obtain ⟨tt, ws, m1, m2, m3⟩ := id hm
    refine ⟨_, rfl, _, _, _, _, true, rfl, .own C, TyX_frm TF hp, TF.kC, true, rfl, ?_⟩
    refine iteF' rfl ?_
    refine ⟨_, rfl, p, C, dx, _, _, rfl, h1, TF.cl, TF.nC, ff_c _ _, n, rfl, true, rfl, ?_⟩
    refine iteF' rfl ?_
    refine ⟨_, rfl, p, C, dx, _, _, rfl, h1, TF.cl, TF.nC, ff_c _ _, _, rfl, m, _, 0, .int n, rfl, rfl, sql_ofT m1, rfl, rfl, _, rfl, ?_⟩
    refine iteF' (by simp) ?_
    refine ⟨_, rfl, p, C, dx, _, _, rfl, h1, TF.cl, TF.nT, ff_t _ _, _, _, _, _, true, rfl, .ty "tuple", .base (.tup g2), kit_ty (by decide +kernel), true, rfl, ?_⟩
    refine iteF' rfl ?_
    have hl : us.length = ws.length := by rw [g3.len, m3.len]
    refine ⟨_, rfl, p, C, dx, _, _, rfl, h1, TF.cl, TF.nT, ff_t _ _, t, us, rfl, .inr (sql_ofT g2), _, rfl, m, _, 1, .ref tt, rfl, rfl, sql_ofT m1, rfl, tt, ws, rfl, .inr (sql_ofT m2), rfl, _, rfl, ?_⟩
    refine iteF' (by rw [hl]; simp) ?_
    refine ⟨_, rfl, p, C, dx, _, _, rfl, h1, TF.cl, TF.nT, ff_t _ _, _, rfl, m, _, 1, .ref tt, rfl, rfl, sql_ofT m1, rfl, t, tt, us, ws, rfl, .inr ⟨sql_ofT g2, sql_ofT m2, RZ.for_zipT (K := K) hl (fun i σ H2 => ∃ x3 x4, σ = [some (.ref p), some (.ref m), x3, x4] ∧ Same H H2) ⟨none, none, rfl, fun _ _ e => e⟩ (fun i σ H2 ⟨_, _, _, z⟩ => ⟨sql_ofT (z _ _ g2), sql_ofT (z _ _ m2)⟩) ?_ ?_⟩⟩
    · rintro i x y T' σ H2 hx hy ⟨x3, x4, rfl, s2⟩ nT
      have sT := same_upd (o := .tup [x, y]) nT
      obtain ⟨u, q, hu, rfl, hq⟩ := (g3.mono (H' := upd H2 T' (.tup [x, y])) fun t xs w => sT _ _ (s2 _ _ w)).at_ hx
      obtain ⟨u', q', hu', rfl, hq'⟩ := (m3.mono (H' := upd H2 T' (.tup [.ref q, y])) fun t xs w => sT _ _ (s2 _ _ w)).at_ hy
      obtain rfl : u = u' := Option.some.inj (hu.symm.trans hu')
      refine ⟨T', _, rfl, sql_ofT upd_same, rfl, _, _, rfl, _, _, rfl, rfl, ?_⟩
      refine ⟨_, rfl, _, _, _, _, true, rfl, .ty "tuple", .base (.tup hq), kit_ty (by decide +kernel), true, rfl, ?_⟩
      refine iteF' rfl ?_
      refine ⟨_, rfl, q, _, rfl, .inr (sql_ofT hq), rfl, _, rfl, ?_⟩
      refine iteF' rfl ?_
      refine ⟨_, rfl, _, rfl, tmD u, tmD u, dp_tm hq, dp_tm hq', sh_tm (ho u (List.mem_of_getElem? hu)), sh_tm (ho u (List.mem_of_getElem? hu)), _, rfl, ?_⟩
      rw [eqv_tm]
      refine iteF' (by simp) ?_
      refine ⟨_, rfl, q, _, 0, _, rfl, rfl, sql_ofT hq, rfl, _, _, _, _, true, rfl, .ty "str", .base (.str u.nm), kit_ty (by decide +kernel), true, rfl, ?_⟩
      refine iteF' rfl ?_
      refine ⟨_, rfl, q, _, 1, _, rfl, rfl, sql_ofT hq, rfl, u.k, rfl, true, rfl, ?_⟩
      refine iteF' rfl ?_
      refine ⟨_, rfl, q, _, 2, _, rfl, rfl, sql_ofT hq, rfl, u.lo, rfl, true, rfl, ?_⟩
      refine iteF' rfl ?_
      refine ⟨_, rfl, q, _, 3, _, rfl, rfl, sql_ofT hq, rfl, u.hi, rfl, true, rfl, ?_⟩
      refine iteF' rfl ?_
      exact ⟨_, _, rfl, s2.trans sT⟩
    · rintro σ H2 ⟨x3, x4, rfl, s2⟩
      exact k H2 s2
/-! data of pairs and acts -/
def prD (p : Str × Int) : PyData := .tuple [.str p.1, .int p.2]
def psD (ps : List (Str × Int)) : PyData := .tuple (ps.map prD)
def PsOk (ps : List (Str × Int)) : Prop := ∀ p ∈ ps, PyData.strOk p.1 = true
theorem dp_pr {H : Hp} {v : V} {p : Str × Int} (h : PairT H v p) : Dp K H v (prD p) := by
  obtain ⟨t, rfl, h⟩ := h
  exact .tup (sql_ofT h) (.cons (.str _) (.cons (.int _) .nil))
theorem dp_prs {H : Hp} {us : List V} {ps : List (Str × Int)} (h : PAll H us ps) : DpAll K H us (ps.map prD) := by
  induction h with
  | nil => exact .nil
  | cons a _ ih => exact .cons (dp_pr a) ih
theorem dp_ps {H : Hp} {q : Addr} {us : List V} {ps : List (Str × Int)} (hq : H q = some (.tup us)) (h : PAll H us ps) : Dp K H (.ref q) (psD ps) := .tup (sql_ofT hq) (dp_prs h)
theorem lay_pr {p : Str × Int} (h : PyData.strOk p.1 = true) : (prD p).canLay0 = true := by
  unfold prD
  simp [PyData.canLay0, PyData.canLayAll0, h]
theorem dep_pr (p : Str × Int) : (prD p).depth = 1 := by
  unfold prD
  simp [PyData.depth, PyData.depthAll]
theorem lay_ps : ∀ {ps : List (Str × Int)}, PsOk ps → PyData.canLayAll0 (ps.map prD) = true
  | [], _ => by simp [PyData.canLayAll0]
  | x :: r, h => by
    rw [List.map_cons, PyData.canLayAll0, lay_ps (ps := r) fun y hy => h y (List.mem_cons_of_mem _ hy), lay_pr (h x List.mem_cons_self)]
    rfl
theorem dep_ps : ∀ ps : List (Str × Int), PyData.depthAll (ps.map prD) ≤ 1
  | [] => by simp [PyData.depthAll]
  | x :: r => by
    rw [List.map_cons, PyData.depthAll, dep_pr]
    have := dep_ps r
    omega
theorem sh_ps {ps : List (Str × Int)} (h : PsOk ps) : SeqAt.shaped (psD ps) = true := by
  unfold SeqAt.shaped psD
  rw [Bool.and_eq_true]
  refine ⟨by rw [PyData.canLay0]; exact lay_ps h, decide_eq_true ?_⟩
  rw [PyData.depth]
  have := dep_ps ps
  omega
theorem eqv_prs : ∀ ps : List (Str × Int), PyData.eqvAll (ps.map prD) (ps.map prD) = true
  | [] => by simp [PyData.eqvAll]
  | x :: r => by
    rw [List.map_cons, PyData.eqvAll, eqv_prs r]
    unfold prD
    simp [PyData.eqv, PyData.eqvAll]
theorem eqv_ps (ps : List (Str × Int)) : PyData.eqv (psD ps) (psD ps) = true := by
  unfold psD
  rw [PyData.eqv, eqv_prs]
/-- flat items -/
def flD : V → PyData
  | .str z => .str z
  | .int i => .int i
  | _ => .none
def FlOk : V → Prop
  | .str z => PyData.strOk z = true
  | .int _ => True
  | _ => False
theorem dp_fl {H : Hp} : ∀ {xs : List V}, (∀ x ∈ xs, FlOk x) → DpAll K H xs (xs.map flD)
  | [], _ => .nil
  | x :: r, h => by
    have hx := h x List.mem_cons_self
    refine .cons ?_ (dp_fl fun y hy => h y (List.mem_cons_of_mem _ hy))
    cases x with
    | str z => exact .str z
    | int i => exact .int i
    | _ => exact hx.elim
theorem lay_fl : ∀ {xs : List V}, (∀ x ∈ xs, FlOk x) → PyData.canLayAll0 (xs.map flD) = true ∧ PyData.depthAll (xs.map flD) = 0 ∧ PyData.eqvAll (xs.map flD) (xs.map flD) = true
  | [], _ => by simp [PyData.canLayAll0, PyData.depthAll, PyData.eqvAll]
  | x :: r, h => by
    have hx := h x List.mem_cons_self
    obtain ⟨i1, i2, i3⟩ := lay_fl fun y hy => h y (List.mem_cons_of_mem x hy)
    rw [List.map_cons, PyData.canLayAll0, PyData.depthAll, PyData.eqvAll, i1, i2, i3]
    cases x with
    | str z =>
      have hz : PyData.strOk z = true := hx
      refine ⟨?_, ?_, ?_⟩
      · show (PyData.canLay0 (.str z) && true) = true
        simp [PyData.canLay0, hz]
      · show max (PyData.depth (.str z)) 0 = 0
        simp [PyData.depth]
      · show (PyData.eqv (.str z) (.str z) && true) = true
        simp [PyData.eqv]
    | int i =>
      refine ⟨?_, ?_, ?_⟩
      · show (PyData.canLay0 (.int i) && true) = true
        simp [PyData.canLay0]
      · show max (PyData.depth (.int i)) 0 = 0
        simp [PyData.depth]
      · show (PyData.eqv (.int i) (.int i) && true) = true
        simp [PyData.eqv]
    | _ => exact hx.elim
theorem sh_fl {xs : List V} (h : ∀ x ∈ xs, FlOk x) : SeqAt.shaped (.tuple (xs.map flD)) = true := by
  obtain ⟨i1, i2, i3⟩ := lay_fl h
  unfold SeqAt.shaped
  rw [Bool.and_eq_true]
  refine ⟨by rw [PyData.canLay0]; exact i1, decide_eq_true ?_⟩
  rw [PyData.depth, i2]
  decide
theorem eqv_fl {xs : List V} (h : ∀ x ∈ xs, FlOk x) : PyData.eqv (.tuple (xs.map flD)) (.tuple (xs.map flD)) = true := by
  rw [PyData.eqv, (lay_fl h).2.2]
def AcOk : Ac → Prop
  | .ru u l _ ts ps => PyData.strOk u = true ∧ PyData.strOk l = true ∧ NmsOk ts ∧ PsOk ps
  | .tu w0 k0 => PyData.strOk w0 = true ∧ k0 ≤ 100
  | .me w0 lo hi => PyData.strOk w0 = true ∧ lo.natAbs < 2 ^ 201 ∧ hi.natAbs < 2 ^ 201
  | a => PyData.strOk a.nm = true
abbrev sSru : Stmt := top 45
theorem scSru : FnScope ["_law_actual", "_law_own", "_law_pair"] ["_law_actual", "_law_own"] (defScope sSru) := ⟨rfl, rfl, rfl, by decide +kernel, rfl, by decide +kernel, by decide +kernel⟩
def spSru (C : Addr) : Sp := fun vs H Q _ => ∃ (t1 t2 : Addr) (xs1 xs2 : List V) (u l : Str) (n : Int) (ts : List Tm) (ps : List (Str × Int)), vs = [.ref t1, .ref t2] ∧ H t1 = some (.tup xs1) ∧ H t2 = some (.tup xs2) ∧ RuR C H xs1 u l n ts ps ∧ RuM H xs2 u l n ts ps ∧ AcOk (.ru u l n ts ps) ∧ ∀ H', Same H H' → Q (.bl true) H'
theorem ok_sru {C : Addr} (D : Df K mg "_law_same_rule" sSru ["_law_actual", "_law_own"]) (IN : Fk P w K mg base 1 "_law_is_number" sIsN ["_law_actual"] spIsN) (SF : Fk P w K mg base 2 "_law_same_form" sSfo ["_law_actual", "_law_own"] (spSfo C)) (mis : mg "isinstance" = none) (mtu : mg "tuple" = none) (mln : mg "len" = none) : FnOk P w K mg base CX0 3 D.f D.fd ["_law_actual", "_law_own"] (spSru C) := by
  refine D.fn.ok scSru (fun vs H Q E h => ?_) (fun cdv A outer s H vs Q E hr h => ?_)
  · obtain ⟨t1, t2, xs1, xs2, u, l, n, ts, ps, rfl, _⟩ := h
    rfl
  · obtain ⟨t1, t2, xs1, xs2, u, l, n, ts, ps, rfl, h1, h2, ⟨f, q, us, rfl, hf, hq, hu⟩, ⟨m, q', us', rfl, hm, hq', hu'⟩, ⟨o1, o2, o3, o4⟩, k⟩ := h
    refine ⟨_, (pss_cons (ps_if (PW.pt (pw_or (pt_not (pt_val (pe_callB call_isi (by rfl) mis (by decide +kernel) (pa_cons (pv 0) (pa_cons (pe_bltn (v := .ty "tuple") (by rfl) mtu (by decide +kernel) rfl) pa_nil))))) (pw_or (pt_cmpR op_ne (pe_callB call_len_seq (by rfl) mln PySem.boot_len (pa_cons (pv 0) pa_nil)) pe_int (nomark _)) (pw_or1 (pt_cmpR (op_neD hr.units) (pe_slice (show SlR _ (rSlT K) from sl_tup) (pv 0) po_none (po_some pe_int)) (pe_slice (show SlR _ (rSlT K) from sl_tup) (pv 1) po_none (po_some pe_int)) (nomark _))))))
      (pss_one (ps_never))
      pss_nil)
      (pss_cons (ps_if (PW.pt (pw_or (pt_not (pt_val (pe_call SF.G (hr.mono (by decide)) (by rfl) SF.D.mgf SF.D.fn.kp SF.D.bd .nil pass0 (pa_cons (pe_ix (show IxR _ (rIxT K) from ix_tup) (pv 0) pe_int (fun _ _ => rfl)) (pa_cons (pe_ix (show IxR _ (rIxT K) from ix_tup) (pv 1) pe_int (fun _ _ => rfl)) pa_nil))))) (pw_or (pt_not (pt_val (pe_callB call_isi (by rfl) mis (by decide +kernel) (pa_cons (pe_ix (show IxR _ (rIxT K) from ix_tup) (pv 0) pe_int (fun _ _ => rfl)) (pa_cons (pe_bltn (v := .ty "tuple") (by rfl) mtu (by decide +kernel) rfl) pa_nil))))) (pw_or1 (pt_cmpR (op_neD hr.units) (pe_ix (show IxR _ (rIxT K) from ix_tup) (pv 0) pe_int (fun _ _ => rfl)) (pe_ix (show IxR _ (rIxT K) from ix_tup) (pv 1) pe_int (fun _ _ => rfl)) (nomark _))))))
      (pss_one (ps_never))
      pss_nil)
      (pss_cons (ps_for PassesOwn.never rfl (pi_tup (pe_ix (show IxR _ (rIxT K) from ix_tup) (pv 0) pe_int (fun _ _ => rfl))) (pg_name (i := 2) scSru.nd rfl (Or.inl rfl))
      (pss_one (ps_if (PW.pt (pw_or (pt_not (pt_val (pe_callB call_isi (by rfl) mis (by decide +kernel) (pa_cons (pv 2) (pa_cons (pe_bltn (v := .ty "tuple") (by rfl) mtu (by decide +kernel) rfl) pa_nil))))) (pw_or1 (pt_not (pt_val (pe_call IN.G (hr.mono (by decide)) (by rfl) IN.D.mgf IN.D.fn.kp IN.D.bd .nil pass0 (pa_cons (pe_ix (show IxR _ (rIxT K) from ix_tup) (pv 2) pe_int (fun _ _ => rfl)) pa_nil)))))))
      (pss_one (ps_never))
      pss_nil)))
      (pss_one (ps_ret pe_bl))))), ?_⟩
    refine ⟨_, rfl, _, _, _, _, true, rfl, .ty "tuple", .base (.tup h1), kit_ty (by decide +kernel), true, rfl, ?_⟩
    refine iteF' rfl ?_
    refine ⟨_, rfl, t1, _, rfl, .inr (sql_ofT h1), rfl, _, rfl, ?_⟩
    refine iteF' rfl ?_
    refine ⟨_, rfl, 2, rfl, t1, _, rfl, sql_ofT h1, (show ¬ (HT.sIx 4 0 none = 0 ∧ HT.sIx 4 4 (some 2) = 4) by decide), fun z1 nz1 => ?_⟩
    have s1 := same_upd (o := .tup [V.str u, V.str l]) nz1
    have c1 : (upd H z1 (.tup [V.str u, V.str l])) z1 = some (.tup [V.str u, V.str l]) := upd_same
    show _
    refine ⟨_, rfl, 2, rfl, t2, _, rfl, sql_ofT (s1 _ _ h2), (show ¬ (HT.sIx 4 0 none = 0 ∧ HT.sIx 4 4 (some 2) = 4) by decide), fun z2 nz2 => ?_⟩
    have s2 := same_upd (o := .tup [V.str u, V.str l]) nz2
    have hfl : ∀ x ∈ [V.str u, V.str l], FlOk x := fun x hx => by
      simp only [List.mem_cons, List.not_mem_nil, or_false] at hx
      rcases hx with rfl | rfl
      · exact o1
      · exact o2
    refine ⟨.tuple ([V.str u, V.str l].map flD), .tuple ([V.str u, V.str l].map flD), .tup (sql_ofT (s2 _ _ c1)) (dp_fl hfl), .tup (sql_ofT upd_same) (dp_fl hfl), sh_fl hfl, sh_fl hfl, _, rfl, ?_⟩
    rw [eqv_fl hfl]
    refine iteF' rfl ?_
    generalize hG : (upd (upd H z1 (.tup [V.str u, V.str l])) z2 (.tup [V.str u, V.str l])) = H2
    have s12 : Same H H2 := by
      rw [← hG]
      exact s1.trans s2
    rw [show (upd (upd H z1 (.tup (cutV [V.str u, V.str l, V.ref f, V.ref q] none (some 2)))) z2 (.tup (cutV [V.str u, V.str l, V.ref m, V.ref q'] none (some 2)))) = H2 from hG]
    refine ⟨_, rfl, t1, _, 2, .ref f, rfl, rfl, sql_ofT (s12 _ _ h1), rfl, _, rfl, t2, _, 2, .ref m, rfl, rfl, sql_ofT (s12 _ _ h2), rfl, f, m, n, ts, rfl, hf.keep s12, hm.kt (.same s12), o3, fun H3 s3 => ⟨true, rfl, ?_⟩⟩
    refine iteF' rfl ?_
    have s13 := s12.trans s3
    refine ⟨_, rfl, t1, _, 3, .ref q, rfl, rfl, sql_ofT (s13 _ _ h1), rfl, _, _, _, _, true, rfl, .ty "tuple", .base (.tup (s13 _ _ hq)), kit_ty (by decide +kernel), true, rfl, ?_⟩
    refine iteF' rfl ?_
    refine ⟨_, rfl, t1, _, 3, .ref q, rfl, rfl, sql_ofT (s13 _ _ h1), rfl, _, rfl, t2, _, 3, .ref q', rfl, rfl, sql_ofT (s13 _ _ h2), rfl, psD ps, psD ps, dp_ps (s13 _ _ hq) (hu.kt (.same s13)), dp_ps (s13 _ _ hq') (hu'.kt (.same s13)), sh_ps o4, sh_ps o4, _, rfl, ?_⟩
    rw [eqv_ps]
    refine iteF' rfl ?_
    refine ⟨_, rfl, t1, _, 3, .ref q, rfl, rfl, sql_ofT (s13 _ _ h1), rfl, q, rfl, ⟨us, sql_ofT (s13 _ _ hq)⟩, for_tup (K := K) (a := q) (xs := us) (fun i σ H4 => ∃ x2, σ = [some (.ref t1), some (.ref t2), x2] ∧ H4 = H3) ⟨none, rfl, rfl⟩ (fun i σ H4 _ ⟨_, _, e⟩ => by rw [e]; exact sql_ofT (s13 _ _ hq)) ?_ ?_⟩
    · rintro i y σ H4 hi ⟨x2, rfl, rfl⟩
      obtain ⟨pr, hpr, t, rfl, ht⟩ := (hu.kt (.same s13)).at_ hi
      refine ⟨_, rfl, _, _, _, _, true, rfl, .ty "tuple", .base (.tup ht), kit_ty (by decide +kernel), true, rfl, ?_⟩
      refine iteF' rfl ?_
      refine ⟨_, rfl, t, _, 1, .int pr.2, rfl, rfl, sql_ofT ht, rfl, pr.2, rfl, true, rfl, ?_⟩
      refine iteF' rfl ?_
      exact ⟨_, rfl, rfl⟩
    · rintro σ H4 ⟨x2, rfl, rfl⟩
      exact k H4 s13
end
end DO

namespace DO
open PySem PySem.Spec PyProof.Rows L2
section
variable {P : Program} {w : World} {K : PySem.W.Frag} {mg : Str → Option Value} {base : Heap}
abbrev sSac : Stmt := top 46
theorem scSac : FnScope ["_law_actual", "_law_own", "_law_cell"] ["_law_actual", "_law_own"] (defScope sSac) := ⟨rfl, rfl, rfl, by decide +kernel, rfl, by decide +kernel, by decide +kernel⟩
def spSac (C : Addr) : Sp := fun vs H Q _ => ∃ (v1 v2 : V) (a : Ac), vs = [v1, v2] ∧ AcR C H v1 a ∧ AcM H v2 a ∧ AcOk a ∧ ∀ H', Same H H' → Q (.bl true) H'
theorem ok_sac {C : Addr} (D : Df K mg "_law_same_act" sSac ["_law_actual", "_law_own"]) (IN : Fk P w K mg base 1 "_law_is_number" sIsN ["_law_actual"] spIsN) (SR : Fk P w K mg base 3 "_law_same_rule" sSru ["_law_actual", "_law_own"] (spSru C)) (mis : mg "isinstance" = none) (mtu : mg "tuple" = none) (mln : mg "len" = none) : FnOk P w K mg base CX0 4 D.f D.fd ["_law_actual", "_law_own"] (spSac C) := by
  refine D.fn.ok scSac (fun vs H Q E h => ?_) (fun cdv A outer s H vs Q E hr h => ?_)
  · obtain ⟨v1, v2, a, rfl, _⟩ := h
    rfl
  · obtain ⟨v1, v2, a, rfl, ha, hm, hok, k⟩ := h
    refine ⟨_, (pss_cons (ps_if (PW.pt (pw_or (pt_not (pt_val (pe_callB call_isi (by rfl) mis (by decide +kernel) (pa_cons (pv 0) (pa_cons (pe_bltn (v := .ty "tuple") (by rfl) mtu (by decide +kernel) rfl) pa_nil))))) (pw_or (pt_cmpR op_ne (pe_callB call_len_seq (by rfl) mln PySem.boot_len (pa_cons (pv 0) pa_nil)) (pe_callB call_len_seq (by rfl) mln PySem.boot_len (pa_cons (pv 1) pa_nil)) (nomark _)) (pw_or1 (pt_cmpR op_ne (pe_ix (show IxR _ (rIxT K) from ix_tup) (pv 0) pe_int (fun _ _ => rfl)) (pe_ix (show IxR _ (rIxT K) from ix_tup) (pv 1) pe_int (fun _ _ => rfl)) (nomark _))))))
      (pss_one (ps_never))
      pss_nil)
      (pss_cons (ps_if (pt_cmpR op_eq (pe_ix (show IxR _ (rIxT K) from ix_tup) (pv 1) pe_int (fun _ _ => rfl)) pe_str (nomark _))
      (pss_one (ps_ret (pe_call SR.G (hr.mono (by decide)) (by rfl) SR.D.mgf SR.D.fn.kp SR.D.bd .nil pass0 (pa_cons (pe_slice (show SlR _ (rSlT K) from sl_tup) (pv 0) (po_some pe_int) po_none) (pa_cons (pe_slice (show SlR _ (rSlT K) from sl_tup) (pv 1) (po_some pe_int) po_none) pa_nil)))))
      pss_nil)
      (pss_cons (ps_for PassesOwn.never rfl (pi_tup (pe_slice (show SlR _ (rSlT K) from sl_tup) (pv 0) (po_some pe_int) po_none)) (pg_name (i := 2) scSac.nd rfl (Or.inl rfl))
      (pss_one (ps_if (pt_not (pt_val (pe_call IN.G (hr.mono (by decide)) (by rfl) IN.D.mgf IN.D.fn.kp IN.D.bd .nil pass0 (pa_cons (pv 2) pa_nil))))
      (pss_one (ps_never))
      pss_nil)))
      (pss_one (ps_ret (pe_cmpR (op_eqD hr.units) (pv 0) (pv 1) (nomark _))))))), ?_⟩
    cases a with
    | ru u l n ts ps =>
      obtain ⟨t1, xs1, rfl, h1, ys1, rfl, hr1⟩ := ha
      obtain ⟨t2, xs2, rfl, h2, ys2, rfl, hr2⟩ := hm
      obtain ⟨f, q, us, rfl, e1⟩ := id hr1
      obtain ⟨m, q', us', rfl, e2⟩ := id hr2
      refine ⟨_, rfl, _, _, _, _, true, rfl, .ty "tuple", .base (.tup h1), kit_ty (by decide +kernel), true, rfl, ?_⟩
      refine iteF' rfl ?_
      refine ⟨_, rfl, t1, _, rfl, .inr (sql_ofT h1), _, rfl, t2, _, rfl, .inr (sql_ofT h2), rfl, _, rfl, ?_⟩
      refine iteF' rfl ?_
      refine ⟨_, rfl, t1, _, 0, .str "rule", rfl, rfl, sql_ofT h1, rfl, _, rfl, t2, _, 0, .str "rule", rfl, rfl, sql_ofT h2, rfl, rfl, _, rfl, ?_⟩
      refine iteF' (by decide) ?_
      refine ⟨_, rfl, t2, _, 0, .str "rule", rfl, rfl, sql_ofT h2, rfl, rfl, _, rfl, ?_⟩
      refine iteT' (by decide) ?_
      refine ⟨_, rfl, 1, rfl, t1, _, rfl, sql_ofT h1, (show ¬ (HT.sIx 5 0 (some 1) = 0 ∧ HT.sIx 5 5 none = 5) by decide), fun z1 nz1 => ?_⟩
      have s1 := same_upd (o := .tup [V.str u, V.str l, V.ref f, V.ref q]) nz1
      have c1 : (upd H z1 (.tup [V.str u, V.str l, V.ref f, V.ref q])) z1 = some (.tup [V.str u, V.str l, V.ref f, V.ref q]) := upd_same
      refine ⟨_, rfl, 1, rfl, t2, _, rfl, sql_ofT (s1 _ _ h2), (show ¬ (HT.sIx 5 0 (some 1) = 0 ∧ HT.sIx 5 5 none = 5) by decide), fun z2 nz2 => ?_⟩
      have s2 := same_upd (o := .tup [V.str u, V.str l, V.ref m, V.ref q']) nz2
      exact ⟨z1, z2, _, _, u, l, n, ts, ps, rfl, s2 _ _ c1, upd_same, hr1.kt (.same (s1.trans s2)), hr2.kt (.same (s1.trans s2)), hok, fun H3 s3 => k H3 ((s1.trans s2).trans s3)⟩
    | me w0 lo hi =>
      obtain ⟨t1, xs1, rfl, h1, rfl⟩ := ha
      obtain ⟨t2, xs2, rfl, h2, rfl⟩ := hm
      refine ⟨_, rfl, _, _, _, _, true, rfl, .ty "tuple", .base (.tup h1), kit_ty (by decide +kernel), true, rfl, ?_⟩
      refine iteF' rfl ?_
      refine ⟨_, rfl, t1, _, rfl, .inr (sql_ofT h1), _, rfl, t2, _, rfl, .inr (sql_ofT h2), rfl, _, rfl, ?_⟩
      refine iteF' rfl ?_
      refine ⟨_, rfl, t1, _, 0, .str "measure", rfl, rfl, sql_ofT h1, rfl, _, rfl, t2, _, 0, .str "measure", rfl, rfl, sql_ofT h2, rfl, rfl, _, rfl, ?_⟩
      refine iteF' (by decide) ?_
      refine ⟨_, rfl, t2, _, 0, .str "measure", rfl, rfl, sql_ofT h2, rfl, rfl, _, rfl, ?_⟩
      refine iteF' (by decide) ?_
      refine ⟨_, rfl, 2, rfl, t1, _, rfl, sql_ofT h1, (show ¬ (HT.sIx 4 0 (some 2) = 0 ∧ HT.sIx 4 4 none = 4) by decide), fun z nz => ?_⟩
      have sz := same_upd (o := .tup [V.int lo, V.int hi]) nz
      have hz : (upd H z (.tup [V.int lo, V.int hi])) z = some (.tup [V.int lo, V.int hi]) := upd_same
      have hfl : ∀ x ∈ [V.str "measure", V.str w0, V.int lo, V.int hi], FlOk x := fun x hx => by
        simp only [List.mem_cons, List.not_mem_nil, or_false] at hx
        rcases hx with rfl | rfl | rfl | rfl
        · exact (by show PyData.strOk (Str.ofString "measure") = true; decide +kernel)
        · exact hok.1
        · exact trivial
        · exact trivial
      refine ⟨z, rfl, ⟨[V.int lo, V.int hi], sql_ofT hz⟩, for_tup (K := K) (a := z) (xs := [V.int lo, V.int hi]) (fun i σ H4 => ∃ x2, σ = [some (.ref t1), some (.ref t2), x2] ∧ H4 = upd H z (.tup [V.int lo, V.int hi])) ⟨none, rfl, rfl⟩ (fun i σ H4 _ ⟨_, _, e⟩ => by rw [e]; exact sql_ofT hz) ?_ ?_⟩
      · rintro i y σ H4 hi ⟨x2, rfl, rfl⟩
        have hy : ∃ j, y = .int j := by
          have := List.mem_of_getElem? hi
          simp only [List.mem_cons, List.not_mem_nil, or_false] at this
          rcases this with e | e
          · exact ⟨_, e⟩
          · exact ⟨_, e⟩
        obtain ⟨j, rfl⟩ := hy
        refine ⟨_, rfl, j, rfl, true, rfl, ?_⟩
        exact iteF' rfl ⟨_, rfl, rfl⟩
      · rintro σ H4 ⟨x2, rfl, rfl⟩
        refine ⟨_, rfl, _, rfl, .tuple ([V.str "measure", V.str w0, V.int lo, V.int hi].map flD), .tuple ([V.str "measure", V.str w0, V.int lo, V.int hi].map flD), .tup (sql_ofT (sz _ _ h1)) (dp_fl hfl), .tup (sql_ofT (sz _ _ h2)) (dp_fl hfl), sh_fl hfl, sh_fl hfl, ?_⟩
        rw [eqv_fl hfl]
        exact k _ sz
    | tu w0 n0 =>
      obtain ⟨t1, xs1, rfl, h1, rfl⟩ := ha
      obtain ⟨t2, xs2, rfl, h2, rfl⟩ := hm
      refine ⟨_, rfl, _, _, _, _, true, rfl, .ty "tuple", .base (.tup h1), kit_ty (by decide +kernel), true, rfl, ?_⟩
      refine iteF' rfl ?_
      refine ⟨_, rfl, t1, _, rfl, .inr (sql_ofT h1), _, rfl, t2, _, rfl, .inr (sql_ofT h2), rfl, _, rfl, ?_⟩
      refine iteF' rfl ?_
      refine ⟨_, rfl, t1, _, 0, .str "turn", rfl, rfl, sql_ofT h1, rfl, _, rfl, t2, _, 0, .str "turn", rfl, rfl, sql_ofT h2, rfl, rfl, _, rfl, ?_⟩
      refine iteF' (by decide) ?_
      refine ⟨_, rfl, t2, _, 0, .str "turn", rfl, rfl, sql_ofT h2, rfl, rfl, _, rfl, ?_⟩
      refine iteF' (by decide) ?_
      refine ⟨_, rfl, 2, rfl, t1, _, rfl, sql_ofT h1, (show ¬ (HT.sIx 3 0 (some 2) = 0 ∧ HT.sIx 3 3 none = 3) by decide), fun z nz => ?_⟩
      have sz := same_upd (o := .tup [V.int n0]) nz
      have hz : (upd H z (.tup [V.int n0])) z = some (.tup [V.int n0]) := upd_same
      have hfl : ∀ x ∈ [V.str "turn", V.str w0, V.int n0], FlOk x := fun x hx => by
        simp only [List.mem_cons, List.not_mem_nil, or_false] at hx
        rcases hx with rfl | rfl | rfl
        · exact (by show PyData.strOk (Str.ofString "turn") = true; decide +kernel)
        · exact hok.1
        · exact trivial
      refine ⟨z, rfl, ⟨[V.int n0], sql_ofT hz⟩, for_tup (K := K) (a := z) (xs := [V.int n0]) (fun i σ H4 => ∃ x2, σ = [some (.ref t1), some (.ref t2), x2] ∧ H4 = upd H z (.tup [V.int n0])) ⟨none, rfl, rfl⟩ (fun i σ H4 _ ⟨_, _, e⟩ => by rw [e]; exact sql_ofT hz) ?_ ?_⟩
      · rintro i y σ H4 hi ⟨x2, rfl, rfl⟩
        have hy : ∃ j, y = .int j := by
          have := List.mem_of_getElem? hi
          simp only [List.mem_cons, List.not_mem_nil, or_false] at this
          exact ⟨_, this⟩
        obtain ⟨j, rfl⟩ := hy
        refine ⟨_, rfl, j, rfl, true, rfl, ?_⟩
        exact iteF' rfl ⟨_, rfl, rfl⟩
      · rintro σ H4 ⟨x2, rfl, rfl⟩
        refine ⟨_, rfl, _, rfl, .tuple ([V.str "turn", V.str w0, V.int n0].map flD), .tuple ([V.str "turn", V.str w0, V.int n0].map flD), .tup (sql_ofT (sz _ _ h1)) (dp_fl hfl), .tup (sql_ofT (sz _ _ h2)) (dp_fl hfl), sh_fl hfl, sh_fl hfl, ?_⟩
        rw [eqv_fl hfl]
        exact k _ sz
    | pa w0 =>
      obtain ⟨t1, xs1, rfl, h1, rfl⟩ := ha
      obtain ⟨t2, xs2, rfl, h2, rfl⟩ := hm
      refine ⟨_, rfl, _, _, _, _, true, rfl, .ty "tuple", .base (.tup h1), kit_ty (by decide +kernel), true, rfl, ?_⟩
      refine iteF' rfl ?_
      refine ⟨_, rfl, t1, _, rfl, .inr (sql_ofT h1), _, rfl, t2, _, rfl, .inr (sql_ofT h2), rfl, _, rfl, ?_⟩
      refine iteF' rfl ?_
      refine ⟨_, rfl, t1, _, 0, .str "part", rfl, rfl, sql_ofT h1, rfl, _, rfl, t2, _, 0, .str "part", rfl, rfl, sql_ofT h2, rfl, rfl, _, rfl, ?_⟩
      refine iteF' (by decide) ?_
      refine ⟨_, rfl, t2, _, 0, .str "part", rfl, rfl, sql_ofT h2, rfl, rfl, _, rfl, ?_⟩
      refine iteF' (by decide) ?_
      refine ⟨_, rfl, 2, rfl, t1, _, rfl, sql_ofT h1, (show ¬ (HT.sIx 2 0 (some 2) = 0 ∧ HT.sIx 2 2 none = 2) by decide), fun z nz => ?_⟩
      have sz := same_upd (o := .tup ([] : List V)) nz
      have hz : (upd H z (.tup ([] : List V))) z = some (.tup ([] : List V)) := upd_same
      have hfl : ∀ x ∈ [V.str "part", V.str w0], FlOk x := fun x hx => by
        simp only [List.mem_cons, List.not_mem_nil, or_false] at hx
        rcases hx with rfl | rfl
        · exact (by show PyData.strOk (Str.ofString "part") = true; decide +kernel)
        · exact hok
      refine ⟨z, rfl, ⟨([] : List V), sql_ofT hz⟩, for_tup (K := K) (a := z) (xs := ([] : List V)) (fun i σ H4 => ∃ x2, σ = [some (.ref t1), some (.ref t2), x2] ∧ H4 = upd H z (.tup ([] : List V))) ⟨none, rfl, rfl⟩ (fun i σ H4 _ ⟨_, _, e⟩ => by rw [e]; exact sql_ofT hz) ?_ ?_⟩
      · rintro i y σ H4 hi ⟨x2, rfl, rfl⟩
        have hy : ∃ j, y = .int j := by
          have := List.mem_of_getElem? hi
          simp at this
        obtain ⟨j, rfl⟩ := hy
        refine ⟨_, rfl, j, rfl, true, rfl, ?_⟩
        exact iteF' rfl ⟨_, rfl, rfl⟩
      · rintro σ H4 ⟨x2, rfl, rfl⟩
        refine ⟨_, rfl, _, rfl, .tuple ([V.str "part", V.str w0].map flD), .tuple ([V.str "part", V.str w0].map flD), .tup (sql_ofT (sz _ _ h1)) (dp_fl hfl), .tup (sql_ofT (sz _ _ h2)) (dp_fl hfl), sh_fl hfl, sh_fl hfl, ?_⟩
        rw [eqv_fl hfl]
        exact k _ sz
end
end DO

namespace DO
open PySem PySem.Spec PyProof.Rows L2
section
variable {P : Program} {w : World} {K : PySem.W.Frag} {mg : Str → Option Value} {base : Heap}
/-! ### a card held against the law's list -/
abbrev sSca : Stmt := top 47
theorem scSca : FnScope ["_law_card", "_law_model", "_law_acts", "_law_steps", "_law_found", "_law_here", "_law_act_here", "_law_behind", "_law_mine", "_law_own"] ["_law_card", "_law_model"] (defScope sSca) := ⟨rfl, rfl, rfl, by decide +kernel, rfl, by decide +kernel, by decide +kernel⟩
def spSca (C D : Addr) : Sp := fun vs H Q _ => ∃ (p L m : Addr) (as : List Ac), vs = [.ref p, .ref m] ∧ CardP D H p L ∧ ActsR C H L as ∧ ActsM H m as ∧ (∀ a ∈ as, AcOk a) ∧ ∀ H', Same H H' → Q (.bl true) H'
/-- a rule of the law's list -/
def isRuM (H : Hp) (v : V) (a : Ac) : Prop := AcM H v a ∧ a.isRu = true
theorem aRu_some {a r : Ac} (h : aRu a = some r) : r = a ∧ a.isRu = true := by
  unfold aRu at h
  cases e : a.isRu with
  | false => rw [e] at h; cases h
  | true => rw [e] at h; exact ⟨(Option.some.inj h).symm, rfl⟩
theorem ok_sca {C D : Addr} (DF : Df K mg "_law_same_card" sSca ["_law_card", "_law_model"]) (T : Crd K mg D) (PA : Pk P w K mg base 1 D "acts" (spActs C D)) (PS : Pk P w K mg base 1 D "steps" (spSteps C D)) (PR : Pk P w K mg base 1 D "rules" (spRules C D)) (SA : Fk P w K mg base 4 "_law_same_act" sSac ["_law_actual", "_law_own"] (spSac C)) (SR : Fk P w K mg base 3 "_law_same_rule" sSru ["_law_actual", "_law_own"] (spSru C)) (TF : Frm K mg C) (MI : Mf K C "__init__" "Form.__init__" sIni ["self", "constant"]) (MK : Mk K C MI.f) (mis : mg "isinstance" = none) (mlist : mg "list" = none) (mln : mg "len" = none) (mz : mg "zip" = none) :
    FnOk P w K mg base CX0 5 DF.f DF.fd ["_law_card", "_law_model"] (spSca C D) := by
  have GI : FnOk P w K mg base CX0 1 MI.f MI.fd ["self", "constant"] (spIni C) := ok_ini TF MI
  refine DF.fn.ok scSca (fun vs H Q E h => ?_) (fun cdv A outer s H vs Q E hr h => ?_)
  · obtain ⟨p, L, m, as, rfl, _⟩ := h
    rfl
  · obtain ⟨p, L, m, as, rfl, hp, hA, hM, hok, k⟩ := h
    refine ⟨_, (pss_cons (ps_set (i := 2) scSca.nd rfl (.inl rfl) (pe_prop (pv 0) T.cl PA.pr PA.G (hr.mono (by decide)) PA.bd .nil pass0 rfl))
      (pss_cons (ps_set (i := 3) scSca.nd rfl (.inl rfl) (pe_prop (pv 0) T.cl PS.pr PS.G (hr.mono (by decide)) PS.bd .nil pass0 rfl))
      (pss_cons (ps_set (i := 4) scSca.nd rfl (.inl rfl) (pe_prop (pv 0) T.cl PR.pr PR.G (hr.mono (by decide)) PR.bd .nil pass0 rfl))
      (pss_cons (ps_setLc (i := 5) (own := [("_law_act_here", 6)]) (g := gName 6) (tt := _) rfl scSca.nd rfl rfl (sw_true rfl rfl rfl (by decide +kernel)) (pi_list (pv 1)) (blkOk_by (N := ["_law_card", "_law_model", "_law_acts", "_law_steps", "_law_found", "_law_here", "_law_act_here", "_law_behind", "_law_mine", "_law_own"]) (sc := defScope sSca) (by decide +kernel)) (fun _ _ _ _ _ => pg_name (i := 6) scSca.nd rfl (Or.inl rfl)) (fun _ _ _ _ _ => pts_one (pt_cmpR op_ne (pe_ix (show IxR _ (rIxT K) from ix_tup) (pv 6) pe_int (fun _ _ => rfl)) pe_str (nomark _))) (fun _ _ _ _ _ => (pv 6)))
      (pss_cons (ps_setLc (i := 7) (own := [("_law_act_here", 6)]) (g := gName 6) (tt := _) rfl scSca.nd rfl rfl (sw_true rfl rfl rfl (by decide +kernel)) (pi_list (pv 1)) (blkOk_by (N := ["_law_card", "_law_model", "_law_acts", "_law_steps", "_law_found", "_law_here", "_law_act_here", "_law_behind", "_law_mine", "_law_own"]) (sc := defScope sSca) (by decide +kernel)) (fun _ _ _ _ _ => pg_name (i := 6) scSca.nd rfl (Or.inl rfl)) (fun _ _ _ _ _ => pts_one (pt_cmpR op_eq (pe_ix (show IxR _ (rIxT K) from ix_tup) (pv 6) pe_int (fun _ _ => rfl)) pe_str (nomark _))) (fun _ _ _ _ _ => (pv 6)))
      (pss_cons (ps_if (PW.pt (pw_or (pt_not (pt_val (pe_callB call_isi (by rfl) mis (by decide +kernel) (pa_cons (pv 2) (pa_cons (pe_bltn (v := .ty "list") (by rfl) mlist (by decide +kernel) rfl) pa_nil))))) (pw_or (pt_not (pt_val (pe_callB call_isi (by rfl) mis (by decide +kernel) (pa_cons (pv 3) (pa_cons (pe_bltn (v := .ty "list") (by rfl) mlist (by decide +kernel) rfl) pa_nil))))) (pw_or1 (pt_not (pt_val (pe_callB call_isi (by rfl) mis (by decide +kernel) (pa_cons (pv 4) (pa_cons (pe_bltn (v := .ty "list") (by rfl) mlist (by decide +kernel) rfl) pa_nil)))))))))
      (pss_one (ps_never))
      pss_nil)
      (pss_cons (ps_if (PW.pt (pw_or (pt_cmpR op_ne (pe_callB call_len_seq (by rfl) mln PySem.boot_len (pa_cons (pv 2) pa_nil)) (pe_callB call_len_seq (by rfl) mln PySem.boot_len (pa_cons (pv 1) pa_nil)) (nomark _)) (pw_or (pt_cmpR op_ne (pe_callB call_len_seq (by rfl) mln PySem.boot_len (pa_cons (pv 3) pa_nil)) (pe_callB call_len_seq (by rfl) mln PySem.boot_len (pa_cons (pv 5) pa_nil)) (nomark _)) (pw_or1 (pt_cmpR op_ne (pe_callB call_len_seq (by rfl) mln PySem.boot_len (pa_cons (pv 4) pa_nil)) (pe_callB call_len_seq (by rfl) mln PySem.boot_len (pa_cons (pv 7) pa_nil)) (nomark _))))))
      (pss_one (ps_never))
      pss_nil)
      (pss_cons (ps_for PassesOwn.never rfl (RZ.pi_zipA (by rfl) mz (pa_cons (pv 2) (pa_cons (pv 1) pa_nil))) (pg_tup rfl (pgs_cons (pg_name (i := 8) scSca.nd rfl (Or.inl rfl)) (pgs_cons (pg_name (i := 9) scSca.nd rfl (Or.inl rfl)) pgs_nil)))
      (pss_one (ps_if (pt_not (pt_val (pe_call SA.G (hr.mono (by decide)) (by rfl) SA.D.mgf SA.D.fn.kp SA.D.bd .nil pass0 (pa_cons (pv 8) (pa_cons (pv 9) pa_nil)))))
      (pss_one (ps_never))
      pss_nil)))
      (pss_cons (ps_for PassesOwn.never rfl (RZ.pi_zipA (by rfl) mz (pa_cons (pv 3) (pa_cons (pv 5) pa_nil))) (pg_tup rfl (pgs_cons (pg_name (i := 8) scSca.nd rfl (Or.inl rfl)) (pgs_cons (pg_name (i := 9) scSca.nd rfl (Or.inl rfl)) pgs_nil)))
      (pss_one (ps_if (pt_not (pt_val (pe_call SA.G (hr.mono (by decide)) (by rfl) SA.D.mgf SA.D.fn.kp SA.D.bd .nil pass0 (pa_cons (pv 8) (pa_cons (pv 9) pa_nil)))))
      (pss_one (ps_never))
      pss_nil)))
      (pss_cons (ps_for PassesOwn.never rfl (RZ.pi_zipA (by rfl) mz (pa_cons (pv 4) (pa_cons (pv 7) pa_nil))) (pg_tup rfl (pgs_cons (pg_name (i := 8) scSca.nd rfl (Or.inl rfl)) (pgs_cons (pg_name (i := 9) scSca.nd rfl (Or.inl rfl)) pgs_nil)))
      (pss_one (ps_if (pt_not (pt_val (pe_call SR.G (hr.mono (by decide)) (by rfl) SR.D.mgf SR.D.fn.kp SR.D.bd .nil pass0 (pa_cons (pv 8) (pa_cons (pe_slice (show SlR _ (rSlT K) from sl_tup) (pv 9) (po_some pe_int) po_none) pa_nil)))))
      (pss_one (ps_never))
      pss_nil)))
      (pss_cons (ps_expr (pe_bm PySem.F.plainAttrs_list PySem.F.slot_list_append PySem.F.type_list_append mt_append (pv 2) (pa_cons (pe_tup (pa_cons pe_str (pa_cons pe_str pa_nil))) pa_nil)))
      (pss_cons (ps_expr (pe_bm0 PySem.F.plainAttrs_list PySem.F.slot_list_clear PySem.F.type_list_clear mt_clear (pv 3)))
      (pss_cons (ps_expr (pe_bm0 PySem.F.plainAttrs_list PySem.F.slot_list_reverse PySem.F.type_list_reverse mt_reverse (pv 4)))
      (pss_cons (ps_expr (pe_bm PySem.F.plainAttrs_list PySem.F.slot_list_append PySem.F.type_list_append mt_append (pv 4) (pa_cons (pe_tup (pa_cons pe_str (pa_cons pe_str (pa_cons (pe_make MK GI (hr.mono (by decide)) rfl TF.mgC MI.bd .nil pass0 (pa_cons pe_int pa_nil)) (pa_cons (pe_tup pa_nil) pa_nil))))) pa_nil)))
      (pss_one (ps_ret pe_bl)))))))))))))))), ?_⟩
    have hsz := hA.sz
    obtain ⟨dx, hp0⟩ := id hp
    refine ⟨_, rfl, p, dx, _, rfl, hp0, p, L, as, rfl, hp, hA, fun B1 ys1 H1 nB1 hB1 hR1 s1 => ?_⟩
    obtain ⟨dx1, hp1⟩ := hp.kt (.same s1)
    refine ⟨_, rfl, p, dx1, _, rfl, hp1, p, L, as, rfl, hp.kt (.same s1), hA.same s1, fun B2 ys2 H2 nB2 hB2 hR2 s2 => ?_⟩
    have s12 := s1.trans s2
    obtain ⟨dx2, hp2⟩ := hp.kt (.same s12)
    refine ⟨_, rfl, p, dx2, _, rfl, hp2, p, L, as, rfl, hp.kt (.same s12), hA.same s12, fun B3 ys3 H3 nB3 hB3 hR3 s3 => ?_⟩
    have s13 := s12.trans s3
    obtain ⟨⟨ms, hm3, hMA⟩, _⟩ := hM.same s13
    have hml := hMA.len
    refine ⟨_, rfl, m, rfl, ⟨_, sql_of hm3⟩, fun B4 nB4 => ?_⟩
    refine lc_pick walk_list as noRu AcM (fun _ _ _ _ q z => z.kt q) nB4 (fun H4 s4 => sql_of (s4 _ _ hm3)) hml (by omega) (fun i x c H4 Yes No hx hc s4 hY hN => ?_) (fun H4 ys4 hB4 hM4 s4 => ?_)
    · obtain ⟨c', hc', hxc⟩ := hMA.at_ hx
      obtain rfl : c' = c := Option.some.inj (hc'.symm.trans hc)
      have hx2 := hxc.kt (.same s4)
      obtain ⟨t, zs, rfl, ht, _⟩ := hx2.lab
      refine ⟨rfl, _, rfl, t, _, 0, .str c'.lab, rfl, rfl, sql_ofT ht, at0, rfl, _, rfl, ite2 (fun e => ?_) (fun e => ?_)⟩
      · exact ⟨_, rfl, hY _ _ _ (ne_ru e) (.refl _) hx2⟩
      · exact hN _ (eq_ru e) (.refl _)
    have hm4 := s4 _ _ hm3
    have hMA4 := hMA.kt (.same s4)
    refine ⟨_, rfl, m, rfl, ⟨_, sql_of hm4⟩, fun B5 nB5 => ?_⟩
    refine lc_pick walk_list as aRu AcM (fun _ _ _ _ q z => z.kt q) nB5 (fun H5 s5 => sql_of (s5 _ _ hm4)) hml (by omega) (fun i x c H5 Yes No hx hc s5 hY hN => ?_) (fun H5 ys5 hB5 hM5 s5 => ?_)
    · obtain ⟨c', hc', hxc⟩ := hMA4.at_ hx
      obtain rfl : c' = c := Option.some.inj (hc'.symm.trans hc)
      have hx2 := hxc.kt (.same s5)
      obtain ⟨t, zs, rfl, ht, _⟩ := hx2.lab
      refine ⟨rfl, _, rfl, t, _, 0, .str c'.lab, rfl, rfl, sql_ofT ht, at0, rfl, _, rfl, ite2 (fun e => ?_) (fun e => ?_)⟩
      · exact ⟨_, rfl, hY _ _ _ (is_ru e) (.refl _) hx2⟩
      · exact hN _ (not_ru e) (.refl _)
    have s25 := ((s2.trans s3).trans s4).trans s5
    have s35 := (s3.trans s4).trans s5
    have s45 := s4.trans s5
    have q1 := s25 _ _ hB1
    have q2 := s35 _ _ hB2
    have q3 := s45 _ _ hB3
    have q4 := s5 _ _ hB4
    have qm := s5 _ _ hm4
    have r1 := hR1.kt (.same s25)
    have r2 := hR2.kt (.same s35)
    have r3 := hR3.mono fun _ _ z => RuleR.kt z (.same s45)
    have r4 := hM4.mono fun _ _ z => AcM.kt z (.same s5)
    have rm := hMA4.kt (.same s5)
    have sH5 := s13.trans s45
    have sH15 := s25
    refine ⟨_, rfl, _, _, _, _, true, rfl, .ty "list", .base (.lst q1), kit_ty (by decide +kernel), true, rfl, ?_⟩
    refine iteF' rfl ?_
    refine ⟨_, rfl, _, _, _, _, true, rfl, .ty "list", .base (.lst q2), kit_ty (by decide +kernel), true, rfl, ?_⟩
    refine iteF' rfl ?_
    refine ⟨_, rfl, _, _, _, _, true, rfl, .ty "list", .base (.lst q3), kit_ty (by decide +kernel), true, rfl, ?_⟩
    refine iteF' rfl ?_
    have l1 : ys1.length = ms.length := by rw [r1.len, rm.len]
    have l2 : ys2.length = ys4.length := by rw [r2.len, r4.len]; rfl
    have l3 : ys3.length = ys5.length := by rw [r3.len, hM5.len]; rfl
    refine ⟨_, rfl, B1, ys1, rfl, .inl (sql_of q1), _, rfl, m, ms, rfl, .inl (sql_of qm), rfl, _, rfl, ?_⟩
    refine iteF' (by rw [l1]; simp) ?_
    refine ⟨_, rfl, B2, ys2, rfl, .inl (sql_of q2), _, rfl, B4, ys4, rfl, .inl (sql_of q4), rfl, _, rfl, ?_⟩
    refine iteF' (by rw [l2]; simp) ?_
    refine ⟨_, rfl, B3, ys3, rfl, .inl (sql_of q3), _, rfl, B5, ys5, rfl, .inl (sql_of hB5), rfl, _, rfl, ?_⟩
    refine iteF' (by rw [l3]; simp) ?_
    -- the three walks
    have hokS : ∀ a ∈ stepsOf as, AcOk a := fun a ha => by
      obtain ⟨b, hb, e⟩ := List.mem_filterMap.mp ha
      obtain ⟨rfl, _⟩ := noRu_some e
      exact hok a hb
    have hRR : All2 (RuleR C H5) ys3 (rulesOf as) := r3
    have hS0 : Same H5 H5 := .refl _
    refine ⟨_, rfl, _, rfl, B1, m, ys1, ms, rfl, .inl ⟨sql_of (hS0 _ _ q1), sql_of (hS0 _ _ qm), RZ.for_zipL (K := K) l1 (fun i σ H6 => ∃ x8 x9, σ = [some (.ref p), some (.ref m), some (.ref B1), some (.ref B2), some (.ref B3), some (.ref B4), none, some (.ref B5), x8, x9] ∧ Same H5 H6) ⟨_, _, rfl, .refl _⟩ (fun i σ H6 ⟨_, _, _, z⟩ => ⟨sql_of (z _ _ q1), sql_of (z _ _ qm)⟩) ?_ ?_⟩⟩
    · rintro i x y T' σ H6 hx hy ⟨x8, x9, rfl, s6⟩ nT
      have sT := s6.trans (same_upd (o := .tup [x, y]) nT)
      obtain ⟨a1, ha1, hr1⟩ := (r1.kt (.same sT)).at_ hx
      obtain ⟨a2, ha2, hr2⟩ := (MAll.kt rm (.same sT)).at_ hy
      obtain rfl : a1 = a2 := Option.some.inj (ha1.symm.trans ha2)
      refine ⟨T', _, rfl, sql_ofT upd_same, rfl, _, _, rfl, _, _, rfl, rfl, ?_⟩
      refine ⟨_, rfl, _, rfl, _, _, a1, rfl, hr1, hr2, hok a1 (List.mem_of_getElem? ha1), fun H7 s7 => ⟨true, rfl, iteF' rfl ?_⟩⟩
      exact ⟨_, _, rfl, sT.trans s7⟩
    rintro σ H6 ⟨x8, x9, rfl, t6⟩
    refine ⟨_, rfl, _, rfl, B2, B4, ys2, ys4, rfl, .inl ⟨sql_of (t6 _ _ q2), sql_of (t6 _ _ q4), RZ.for_zipL (K := K) l2 (fun i σ H6 => ∃ x8 x9, σ = [some (.ref p), some (.ref m), some (.ref B1), some (.ref B2), some (.ref B3), some (.ref B4), none, some (.ref B5), x8, x9] ∧ Same H5 H6) ⟨_, _, rfl, t6⟩ (fun i σ H6 ⟨_, _, _, z⟩ => ⟨sql_of (z _ _ q2), sql_of (z _ _ q4)⟩) ?_ ?_⟩⟩
    · rintro i x y T' σ H6 hx hy ⟨x8, x9, rfl, s6⟩ nT
      have sT := s6.trans (same_upd (o := .tup [x, y]) nT)
      obtain ⟨a1, ha1, hr1⟩ := (r2.kt (.same sT)).at_ hx
      obtain ⟨a2, ha2, hr2⟩ := (MAll.kt r4 (.same sT)).at_ hy
      obtain rfl : a1 = a2 := Option.some.inj (ha1.symm.trans ha2)
      refine ⟨T', _, rfl, sql_ofT upd_same, rfl, _, _, rfl, _, _, rfl, rfl, ?_⟩
      refine ⟨_, rfl, _, rfl, _, _, a1, rfl, hr1, hr2, hokS a1 (List.mem_of_getElem? ha1), fun H7 s7 => ⟨true, rfl, iteF' rfl ?_⟩⟩
      exact ⟨_, _, rfl, sT.trans s7⟩
    rintro σ H7 ⟨x8', x9', rfl, t7⟩
    refine ⟨_, rfl, _, rfl, B3, B5, ys3, ys5, rfl, .inl ⟨sql_of (t7 _ _ q3), sql_of (t7 _ _ hB5), RZ.for_zipL (K := K) l3 (fun i σ H6 => ∃ x8 x9, σ = [some (.ref p), some (.ref m), some (.ref B1), some (.ref B2), some (.ref B3), some (.ref B4), none, some (.ref B5), x8, x9] ∧ Same H5 H6) ⟨_, _, rfl, t7⟩ (fun i σ H6 ⟨_, _, _, z⟩ => ⟨sql_of (z _ _ q3), sql_of (z _ _ hB5)⟩) ?_ ?_⟩⟩
    · rintro i x y T' σ H6 hx hy ⟨x8, x9, rfl, s6⟩ nT
      have sT := s6.trans (same_upd (o := .tup [x, y]) nT)
      obtain ⟨a1, ha1, hr1⟩ := (hRR.mono fun _ _ z => RuleR.kt z (.same sT)).at_ hx
      obtain ⟨a2, ha2, hr2⟩ := (MAll.kt hM5 (.same sT)).at_ hy
      obtain rfl : a1 = a2 := Option.some.inj (ha1.symm.trans ha2)
      have hin := List.mem_of_getElem? ha1
      have hoka : AcOk a1 := by
        obtain ⟨b, hb, e⟩ := List.mem_filterMap.mp hin
        obtain ⟨rfl, _⟩ := aRu_some e
        exact hok a1 hb
      cases a1 with
      | ru u l n0 ts0 ps0 =>
        obtain ⟨t1, xs1, rfl, h1, hRu⟩ := hr1
        obtain ⟨t2, xs2, rfl, h2, ys2', rfl, hMu⟩ := hr2
        obtain ⟨m0, q0, us0, rfl, e2⟩ := id hMu
        refine ⟨T', _, rfl, sql_ofT upd_same, rfl, _, _, rfl, _, _, rfl, rfl, ?_⟩
        refine ⟨_, rfl, _, rfl, 1, rfl, t2, _, rfl, sql_ofT h2, (show ¬ (HT.sIx 5 0 (some 1) = 0 ∧ HT.sIx 5 5 none = 5) by decide), fun z2 nz2 => ?_⟩
        have s2' := same_upd (o := .tup [V.str u, V.str l, V.ref m0, V.ref q0]) nz2
        refine ⟨t1, z2, _, _, u, l, n0, ts0, ps0, rfl, s2' _ _ h1, upd_same, hRu.kt (.same s2'), hMu.kt (.same s2'), hoka, fun H7 s7 => ⟨true, rfl, iteF' rfl ?_⟩⟩
        exact ⟨_, _, rfl, (sT.trans s2').trans s7⟩
      | me w0 lo hi => obtain ⟨_, _, _, _, z⟩ := hr1; exact z.elim
      | tu w0 n0 => obtain ⟨_, _, _, _, z⟩ := hr1; exact z.elim
      | pa w0 => obtain ⟨_, _, _, _, z⟩ := hr1; exact z.elim
    rintro σ H8 ⟨x8'', x9'', rfl, t8⟩
    have nb1 : H B1 = none := nB1
    have nb2 : H B2 = none := s1.free nB2
    have nb3 : H B3 = none := s12.free nB3
    have b1 := t8 _ _ q1
    have b2 := t8 _ _ q2
    have b3 := t8 _ _ q3
    have n12 : B1 ≠ B2 := ne_of_none hB1 nB2
    have n13 : B1 ≠ B3 := ne_of_none (s2 _ _ hB1) nB3
    have n23 : B2 ≠ B3 := ne_of_none hB2 nB3
    have sH8 := sH5.trans t8
    have up : ∀ {G : Hp} {b : Addr} {o : HO}, Same H G → H b = none → Same H (upd G b o) := fun sg nb c o ec => by
      rw [upd_ne (ne_of_none ec nb)]
      exact sg _ _ ec
    have hz1 := r1.len
    have hz2 := r3.len
    have hz3 : (rulesOf as).length ≤ as.length := List.length_filterMap_le _ _
    refine ⟨_, rfl, .inl ⟨rfl, _, sql_of b1⟩, (by show 2 ≤ sizeLine; decide), fun q nq => ?_⟩
    have sq := same_upd (o := .tup [V.str "part", V.str "spoilt"]) nq
    have c1 := sq _ _ b1
    refine ⟨B1, ys1, _, rfl, rfl, c1, small1000 (by omega), ?_⟩
    have d2 : (upd (upd H8 q (.tup [V.str "part", V.str "spoilt"])) B1 (.lst (ys1 ++ [V.ref q]))) B2 = some (.lst ys2) := by rw [upd_ne n12.symm]; exact sq _ _ b2
    have d3 : (upd (upd H8 q (.tup [V.str "part", V.str "spoilt"])) B1 (.lst (ys1 ++ [V.ref q]))) B3 = some (.lst ys3) := by rw [upd_ne n13.symm]; exact sq _ _ b3
    have sG := up (o := .lst (ys1 ++ [V.ref q])) (sH8.trans sq) nb1
    generalize (upd (upd H8 q (.tup [V.str "part", V.str "spoilt"])) B1 (.lst (ys1 ++ [V.ref q]))) = G1 at d2 d3 sG
    refine ⟨_, rfl, .inl ⟨rfl, _, sql_of d2⟩, B2, ys2, rfl, rfl, d2, ?_⟩
    have d3' : (upd G1 B2 (.lst [])) B3 = some (.lst ys3) := by rw [upd_ne n23.symm]; exact d3
    have sG2 := up (o := .lst []) sG nb2
    generalize (upd G1 B2 (.lst [])) = G2 at d3' sG2
    refine ⟨_, rfl, .inl ⟨rfl, _, sql_of d3'⟩, B3, ys3, rfl, rfl, d3', ?_⟩
    have e3 : (upd G2 B3 (.lst ys3.reverse)) B3 = some (.lst ys3.reverse) := upd_same
    have sG3 := up (o := .lst ys3.reverse) sG2 nb3
    generalize (upd G2 B3 (.lst ys3.reverse)) = G3 at e3 sG3
    refine ⟨_, rfl, .inl ⟨rfl, _, sql_of e3⟩, fun f df nf ndf hne => ⟨f, df, 0, rfl, upd_same, fun t0 G4 nt0 hf0 ht0 kp => ⟨rfl, ?_⟩⟩⟩
    have sG4 := made_same nf ndf kp
    refine ⟨(by show 0 ≤ sizeLine; decide), fun te nte => ⟨(by show 4 ≤ sizeLine; decide), fun tq ntq => ?_⟩⟩
    have ste := same_upd (o := .tup []) nte
    have stq := same_upd (o := .tup [V.str "frame", V.str "spoilt", V.ref f, V.ref te]) ntq
    have sAll := (sG4.trans ste).trans stq
    refine ⟨B3, ys3.reverse, _, rfl, rfl, sAll _ _ e3, (by rw [List.length_reverse]; exact small1000 (by omega)), ?_⟩
    exact k _ (up (sG3.trans sAll) nb3)
end
end DO

namespace DO
open PySem PySem.Spec PyProof.Rows L2
section
variable {P : Program} {w : World} {K : PySem.W.Frag} {mg : Str → Option Value} {base : Heap}
/-! ### a def that is called while no repr is under way -/
structure FnG (P : Program) (w : World) (K : PySem.W.Frag) (mg : Str → Option Value) (base : Heap) (k : Nat) (f : Addr) (fd : FuncData) (ps : List Str) (sp : Sp) : Prop where
  len : ∀ vs H Q E, sp vs H Q E → vs.length = ps.length
  run : ∀ (A : Around) (out : List Env) (s : Shared) (H : Hp) (args : Args) (us : List Value) (vs : List V) (Q : VK) (E : XK), A.guards = some [] → Room k A → Env0 P w K mg base A out s H →
    BindsTo s fd args (ps.zip us) → Vals vs us → sp vs H Q E → codeAny (model P w) A (.call (.ref f) args) (CR CX0 out P w H s Q E) s
/-- the rule for such a def -/
theorem okG {x qual : Str} {st : Stmt} {f : Addr} {fd : FuncData} {N ps : List Str} {k : Nat} {sp : Sp} (F : Fun K x qual st f fd) (S : FnScope N ps (defScope st)) (len : ∀ vs H Q E, sp vs H Q E → vs.length = ps.length)
    (go : ∀ (cv : Value) (A : Around) (out : List Env) (s : Shared) (H : Hp) (vs : List V) (Q : VK) (E : XK), A.guards = some [] → Room k (A.deeper (envOfC qual (defScope st) s.heap.objs.size f cv)) → sp vs H Q E →
      ∃ t, PSs (cxOf CX0 P w K mg base N qual (defScope st) f cv A out s H E).nox (defBody st) t ∧ t { nx := fun _ H' => Q .non H', rt := Q } (L2.start N vs) H) : FnG P w K mg base (k + 1) f fd ps sp := by
  obtain ⟨oc, od, kV, doc, pm, an, cv, ct, osl, rfl, lk, hcd⟩ := F.ex
  refine ⟨len, fun A out s H args us vs Q E hg hr env bnd rel sat => ?_⟩
  have inK : K.In s.heap := env.mod.kin.keeps fun b o z => (env.bs b o z).1
  have nl : s.heap.NoLimit := env.mod.nolimit.keeps fun b o z => (env.bs b o z).1
  have loc : ∀ y ∈ ps.zip us, (defScope st).names.lookup y.1 = some .local ∨ ((defScope st).names.lookup y.1 = some .cell ∧ ((cellsFrom (s.heap.objs.size + 1) (defScope st).names []).lookup y.1).isSome = true) := by
    rintro ⟨nm, val⟩ hy
    have hp := S.par nm (List.of_mem_zip hy).1
    exact hp.imp id fun z => ⟨z, PySem.W.cellsFrom_some _ _ _ (.inl z)⟩
  refine codeAny_call_function hr.depth (inK _ _ lk) rfl S.co S.gen rfl (PySem.W.codeRec_of inK hcd) (bnd _ _ _ _ (wpAny_newFunctionEnv_cells S.kind loc fun ev hev s1 ic => ?_))
  subst hev
  obtain ⟨t, ht, rd⟩ := go cv A out s H vs Q E hg (hr.deeper _) sat
  have J := inv_start (CX := CX0) (E := E) (f := f) (cd := cv) S hr.hd env (len _ _ _ _ sat) rel ic
  refine ⟨nl.keeps ic.toInCall.keep, codeAny_func (wpAny_mono (ht.nox.run [] s1 (L2.start N vs) H _ J rd) ?_ fun _ _ z => z)⟩
  rintro fl s2 hfl
  cases fl
  case ret u =>
    obtain ⟨y, σ2, H2, J2, ry, qy⟩ := hfl
    exact ⟨y, H2, J2.os, J2.bare, J2.base, J2.hok, ry, qy⟩
  case next =>
    obtain ⟨σ2, H2, J2, qy⟩ := hfl
    exact ⟨V.non, H2, J2.os, J2.bare, J2.base, J2.hok, rfl, qy⟩
  case brk =>
    obtain ⟨_, _, _, z⟩ := hfl
    exact z.elim
  case cont =>
    obtain ⟨_, _, _, z⟩ := hfl
    exact z.elim
section
variable {X : Cx} {k : Nat} {f : Addr} {fd : FuncData} {ps : List Str} {sp : Sp} {x : Str} {p pos : Pos} {e : Expr} {es : List Expr} {t : TA}
/-- f(e, ..), no repr being under way -/
theorem pe_callG (F : FnG X.prog X.w X.K X.mg X.base k f fd ps sp) (hg0 : X.A.guards = some []) (hr : Room k X.A) (hg : Gl X x) (hm : X.mg x = some (.ref f)) (kp : PySem.W.keepIn X.K (.ref f) = true) (bd : Binds X.K fd ps []) (ha : PA X (e :: es) t) (hdb : (x == ("__debug__" : Str)) = false := by decide)
    (hst : starEach (e :: es) X.env = (false, eval e X.env) :: starEach es X.env := by rfl) (hpl : (backTo pos (starEach es X.env)).any (·.1) = false := by rfl) : PE X (.Call (.Name x p) (e :: es) [] pos) (tCall sp [] E0 t) := ⟨fun pins s σ H Q I h => by
  refine wpAny_Call_Name_kw (ld_glob I hg hm ?_ hdb)
  have hargs := ha.run pos pins s σ H _ I h
  refine PySem.W.callWith_K (h₀ := X.base) I.ok.mod.kin kp (thn hargs fun us s1 z => ?_) hst hpl
  obtain ⟨vs, H1, I1, rel, q⟩ := z
  rw [List.append_nil] at q
  have ln : us.length = ps.length := by
    rw [← rel.length]
    exact F.len _ _ _ _ q
  have bnd := bd s1 us I1.kIn (by rw [List.append_nil]; exact ln)
  rw [List.append_nil] at bnd
  refine ⟨I1.kIn, wpAny_call (codeAny_mono (F.run X.A X.stack s1 H1 _ us vs Q E0 hg0 hr I1.env0 bnd rel q) ?_)⟩
  rintro (er | fl) s2 hz
  · exact False.elim hz
  · cases fl
    case ret u => exact I1.after hz
    all_goals exact False.elim hz⟩
end
/-! ### repr of a list of pairs -/
def reP (ps : List (Str × Int)) : PyData := .list (ps.map prD)
structure RpOk (ps : List (Str × Int)) : Prop where
  sz : ps.length ≤ 20
  nm : ∀ x ∈ ps, x.1.length ≤ 12 ∧ ∀ c ∈ x.1.cps.toList, c < 16 ^ 8
  bd : ∀ x ∈ ps, x.2.natAbs < 2 ^ 201
theorem rp_show {ps : List (Str × Int)} (h : RpOk ps) : (reP ps).showable = true := by
  unfold reP
  simp only [PyData.showable]
  have hb := h.bd
  clear h
  induction ps with
  | nil => rfl
  | cons x r ih =>
    simp only [List.map_cons, PyData.showableAll, prD, PyData.showable, Bool.true_and, Bool.and_true, Bool.and_eq_true, decide_eq_true_eq]
    refine ⟨?_, ih fun y hy => hb y (List.mem_cons_of_mem _ hy)⟩
    have h1 := hb x List.mem_cons_self
    by_cases z : x.2.natAbs = 0
    · rw [z]
      decide
    · exact Nat.lt_trans ((Nat.log2_lt z).mpr h1) (by decide)
theorem rp_short : ∀ ps : List (Str × Int), (∀ x ∈ ps, x.1.length ≤ 12 ∧ ∀ c ∈ x.1.cps.toList, c < 16 ^ 8) → (∀ x ∈ ps, x.2.natAbs < 2 ^ 201) → PyData.leavesShortAll 70 (ps.map prD) = true ∧ PyData.weightAll (ps.map prD) ≤ ps.length * 1000
  | [], _, _ => ⟨rfl, by simp only [List.map_nil, PyData.weightAll]; omega⟩
  | x :: r, h1, h2 => by
    obtain ⟨i1, i2⟩ := rp_short r (fun y hy => h1 y (List.mem_cons_of_mem _ hy)) fun y hy => h2 y (List.mem_cons_of_mem _ hy)
    obtain ⟨a1, a2⟩ := h1 x List.mem_cons_self
    have a3 := h2 x List.mem_cons_self
    constructor
    · simp only [List.map_cons, PyData.leavesShortAll, prD, PyData.leavesShort, Bool.and_eq_true, List.all_eq_true, decide_eq_true_eq]
      refine ⟨⟨a2, ?_, trivial⟩, i1⟩
      have e := int_text_length_le10 (k := 61) (by decide) (Nat.lt_of_lt_of_le a3 (by decide +kernel))
      show (Str.ofString (toString x.2)).length ≤ 70
      rw [PySem.ofString_length]
      omega
    · simp only [List.map_cons, PyData.weightAll, prD, PyData.weight, List.length_cons]
      have e1 : x.1.cps.size = x.1.length := rfl
      have e2 : (if (x.2 == 0) = true then 0 else x.2.natAbs.log2 + 1) ≤ 202 := by
        split
        · omega
        · rename_i z
          have z' : x.2.natAbs ≠ 0 := fun y => z (by simpa using y)
          have := (Nat.log2_lt z').mpr a3
          omega
      omega
theorem rp_len {ps : List (Str × Int)} (h : RpOk ps) : (reP ps).shown.length ≤ sizeLine := by
  obtain ⟨h1, h2, h3⟩ := h
  obtain ⟨i1, i2⟩ := rp_short ps h2 h3
  have := PyData.shown_le 70 (by decide) (reP ps) (by unfold reP; simp only [PyData.leavesShort]; exact i1)
  have e : (reP ps).weight = PyData.weightAll (ps.map prD) := by unfold reP; simp only [PyData.weight]
  rw [e] at this
  have z := sizeLine_eq
  omega
theorem rp_nod (ps : List (Str × Int)) : (reP ps).hasDict = false := by
  unfold reP
  simp only [PyData.hasDict]
  induction ps with
  | nil => rfl
  | cons x r ih =>
    simp only [List.map_cons, PyData.hasDictAll, prD, PyData.hasDict, Bool.false_or, Bool.or_false]
    exact ih
section
variable {X : Cx}
theorem rp_reads {pins : List (Addr × Obj)} {σ : L2.St} {H : Hp} {s : Shared} (I : L2.Inv X pins σ H s) {us : List V} {ps : List (Str × Int)} (h : PAll H us ps) : ∀ {its : List Value}, Vals us its → ReadsAll s.heap its (ps.map prD) [] := by
  induction h with
  | nil =>
    intro its r
    cases r
    exact .nil
  | @cons v p us ps a _ ih =>
    intro its r
    cases r with
    | @cons _ u _ its2 r1 r2 =>
      obtain ⟨t, rfl, ht⟩ := a
      obtain rfl : u = Value.ref t := r1
      obtain ⟨ws, rv, htup, _⟩ := I.tuple (sql_ofT ht)
      obtain ⟨ob, ho, hc, n, hd⟩ := htup
      have hz : ReadsAll s.heap ws [.str p.1, .int p.2] [] := by
        cases rv with
        | cons e1 rv =>
          cases rv with
          | cons e2 rv =>
            cases rv
            obtain ⟨t1, rfl⟩ := e1
            obtain ⟨t2, rfl⟩ := e2
            exact .cons (.str _ _) (.cons (.int _ _) .nil)
      have h1 : Reads s.heap (.ref t) (prD p) [] := .tuple ho hc hd (by simpa using hz)
      exact .cons h1 (ih r2)
theorem call_reprP (hg : X.A.guards = some []) (hu : X.A.units + 8 < cLine) : CallR X (.builtin "repr") (fun xs H Q => ∃ (d : Addr) (us : List V) (ps : List (Str × Int)), xs = [.ref d] ∧ H d = some (.lst us) ∧ PAll H us ps ∧ RpOk ps ∧ Q (.str (reP ps).shown) H) := by
  intro pins s σ H xs us Q I r h
  obtain ⟨d, us0, ps, rfl, hd, hps, ok, q⟩ := h
  obtain ⟨u, rfl, hu2⟩ := vals1 r
  obtain rfl : u = Value.ref d := hu2
  obtain ⟨its, rv, pl, _⟩ := I.list (sql_of hd)
  obtain ⟨ob, ho, hc, n, hdat⟩ := pl.isList
  have rd : Reads s.heap (.ref d) (reP ps) (d :: []) := .list ho hc hdat (by simpa using rp_reads I hps rv)
  have hdep : (reP ps).depth ≤ 2 := by
    unfold reP
    simp only [PyData.depth]
    have := dep_ps ps
    omega
  exact repr_of_reads' rd (rp_show ok) (fun hm => by
    rw [rp_nod] at hm
    cases hm) hg (by omega) (fun _ _ z => z) (fun h' u tk hk => ⟨.str (reP ps).shown, H, I.kept hk, ⟨u, rfl⟩, q⟩) (rp_len ok)
end
end
end DO

namespace DO
open PySem PySem.Spec PyProof.Rows L2
/-! ### what the calls leave -/
def ClOk : Cl → Prop
  | .st a => AcOk a ∧ PyData.strOk a.nm = true
  | .ru u l _ ts ps => PyData.strOk u = true ∧ PyData.strOk l = true ∧ NmsOk ts ∧ PsOk ps ∧ RpOk ps
  | .ba => True
  | .fo z => PyData.strOk z = true
def Er.okI : Er → Prop
  | .nam i _ => i ≤ 5
  | _ => True
def ErOk (e : Er) : Prop := e.okI ∧ ∀ x ∈ e.its, FlOk x
theorem fl_name {i : Nat} (h : i ≤ 5) : PyData.strOk (xName i) = true := by
  have : i = 0 ∨ i = 1 ∨ i = 2 ∨ i = 3 ∨ i = 4 ∨ i = 5 := by omega
  rcases this with rfl | rfl | rfl | rfl | rfl | rfl <;> decide +kernel
theorem er_nam {i : Nat} {w : Str} (h : i ≤ 5) (hw : PyData.strOk w = true) : ErOk (.nam i w) := ⟨h, fun x hx => by
  simp only [Er.its, List.mem_cons, List.not_mem_nil, or_false] at hx
  rcases hx with rfl | rfl
  · exact fl_name h
  · exact hw⟩
theorem er_ful {w : Str} (hw : PyData.strOk w = true) : ErOk (.ful w) := ⟨trivial, fun x hx => by
  simp only [Er.its, List.mem_cons, List.not_mem_nil, or_false] at hx
  rcases hx with rfl | rfl
  · show PyData.strOk (Str.ofString "CardFull") = true
    decide +kernel
  · exact hw⟩
theorem er_ends {lo hi : Int} : ErOk (.ends lo hi) := ⟨trivial, fun x hx => by
  simp only [Er.its, List.mem_cons, List.not_mem_nil, or_false] at hx
  rcases hx with rfl | rfl | rfl
  · show PyData.strOk (Str.ofString "BadEnds") = true
    decide +kernel
  · trivial
  · trivial⟩
theorem er_cnt {k : Int} : ErOk (.cnt k) := ⟨trivial, fun x hx => by
  simp only [Er.its, List.mem_cons, List.not_mem_nil, or_false] at hx
  rcases hx with rfl | rfl
  · show PyData.strOk (Str.ofString "BadCount") = true
    decide +kernel
  · trivial⟩
theorem er_opt {w : Str} {k : Int} (hw : PyData.strOk w = true) : ErOk (.opt w k) := ⟨trivial, fun x hx => by
  simp only [Er.its, List.mem_cons, List.not_mem_nil, or_false] at hx
  rcases hx with rfl | rfl | rfl
  · show PyData.strOk (Str.ofString "BadOption") = true
    decide +kernel
  · exact hw
  · trivial⟩
theorem er_emp : ErOk .emp := ⟨trivial, fun x hx => by
  simp only [Er.its, List.mem_cons, List.not_mem_nil, or_false] at hx
  subst hx
  show PyData.strOk (Str.ofString "CardEmpty") = true
  decide +kernel⟩
theorem str_labs {kd : Str} (h : kd ∈ (["measure", "turn", "part"] : List Str)) : PyData.strOk kd = true := by
  simp only [List.mem_cons, List.not_mem_nil, or_false] at h
  rcases h with rfl | rfl | rfl <;> decide +kernel
theorem room_ok {as : List Ac} {kd : Str} {e : Er} (h : roomDue as kd = some e) (hk : kd ∈ (["measure", "turn", "part"] : List Str)) : ErOk e := by
  unfold roomDue at h
  split at h
  · cases h
    exact er_ful (str_labs hk)
  · cases h
theorem step_ok {as : List Ac} {a : Ac} {e : Er} (h : stepDue as a = some e) (ha : PyData.strOk a.nm = true) : ErOk e := by
  unfold stepDue at h
  cases hn : nameDue as a.nm with
  | some e2 =>
    rw [hn] at h
    cases h
    unfold nameDue at hn
    split at hn
    · split at hn
      · cases hn
        exact er_nam (by decide) ha
      · cases hn
    · cases hn
      exact er_nam (by decide) ha
  | none =>
    rw [hn] at h
    cases a with
    | me w lo hi =>
      dsimp only at h
      split at h
      · cases h
        exact er_ends
      · exact room_ok h (by decide)
    | tu w k =>
      dsimp only at h
      split at h
      · cases h
        exact er_cnt
      · exact room_ok h (by decide)
    | pa w => exact room_ok h (by decide)
    | ru u l n ts ps => exact room_ok h (by decide)
theorem meas_ok {as : List Ac} {ts : List Tm} {e : Er} (h : measDue as ts = some e) (ho : NmsOk ts) : ErOk e := by
  obtain ⟨x, hx, hb⟩ := List.exists_of_findSome?_eq_some h
  unfold measBad at hb
  split at hb
  · cases hb
    exact er_nam (by decide) (ho x hx)
  · split at hb
    · cases hb
    · cases hb
      exact er_nam (by decide) (ho x hx)
theorem when_ok {as : List Ac} : ∀ {ps : List (Str × Int)} {seen : List Str} {e : Er}, whenRun as seen ps = some e → PsOk ps → ErOk e
  | [], _, _, h, _ => by cases h
  | p :: r, seen, e, h, ho => by
    rw [whenRun_cons] at h
    have hp := ho p List.mem_cons_self
    cases hb : whenBad as seen p with
    | some e2 =>
      rw [hb] at h
      cases h
      unfold whenBad at hb
      split at hb
      · cases hb
        exact er_nam (by decide) hp
      · split at hb
        · cases hb
          exact er_nam (by decide) hp
        · split at hb
          · cases hb
          · cases hb
            exact er_opt hp
    | none =>
      rw [hb] at h
      exact when_ok h fun q hq => ho q (List.mem_cons_of_mem _ hq)
theorem when_nd {as : List Ac} : ∀ {ps : List (Str × Int)} {seen : List Str}, whenRun as seen ps = none → (∀ p ∈ ps, p.1 ∉ seen) ∧ (ps.map (·.1)).Nodup
  | [], _, _ => ⟨fun p hp => by simp at hp, List.nodup_nil⟩
  | p :: r, seen, h => by
    rw [whenRun_cons] at h
    cases hb : whenBad as seen p with
    | some e2 =>
      rw [hb] at h
      cases h
    | none =>
      rw [hb] at h
      obtain ⟨i1, i2⟩ := when_nd h
      have hns : p.1 ∉ seen := by
        unfold whenBad at hb
        split at hb
        · cases hb
        · split at hb
          · cases hb
          · assumption
      refine ⟨fun q hq => ?_, ?_⟩
      · rcases List.mem_cons.mp hq with rfl | z
        · exact hns
        · exact fun y => i1 q z (List.mem_append_left _ y)
      · rw [List.map_cons, List.nodup_cons]
        refine ⟨fun hm => ?_, i2⟩
        obtain ⟨q, hq, eq⟩ := List.mem_map.mp hm
        exact i1 q hq (List.mem_append_right _ (by rw [eq]; exact List.mem_cons_self))
theorem rule_ok {as : List Ac} {u l : Str} {ts : List Tm} {ps : List (Str × Int)} {e : Er} (h : ruleDue as u l ts ps = some e) (hu : PyData.strOk u = true) (hl : PyData.strOk l = true) (ho : NmsOk ts) (hp : PsOk ps) : ErOk e := by
  unfold ruleDue at h
  split at h
  · cases h
    exact er_nam (by decide) hu
  split at h
  · cases h
    exact er_nam (by decide) hl
  split at h
  · cases h
    exact er_nam (by decide) hu
  split at h
  · rename_i e2 he
    cases h
    exact meas_ok he ho
  split at h
  · rename_i e2 he
    cases h
    exact when_ok he hp
  split at h
  · cases h
    exact er_ful (by decide +kernel)
  · cases h
theorem due_ok {as : List Ac} {c : Cl} {e : Er} (h : dueC as c = some e) (hc : ClOk c) : ErOk e := by
  cases c with
  | st a => exact step_ok h hc.2
  | ru u l n ts ps => exact rule_ok h hc.1 hc.2.1 hc.2.2.1 hc.2.2.2.1
  | ba =>
    cases as with
    | nil => cases h; exact er_emp
    | cons _ _ => cases h
  | fo z =>
    have h' : (match endsOf as z with | none => some (Er.nam 2 z) | some _ => none) = some e := h
    split at h'
    · cases h'
      exact er_nam (by decide) hc
    · cases h'
theorem rule_none {as : List Ac} {u l : Str} {ts : List Tm} {ps : List (Str × Int)} (h : ruleDue as u l ts ps = none) : whenDue as ps = none ∧ ¬ (rulesOf as).length ≥ 80 := by
  unfold ruleDue at h
  split at h
  · cases h
  split at h
  · cases h
  split at h
  · cases h
  split at h
  · cases h
  split at h
  · cases h
  split at h
  · cases h
  · exact ⟨by assumption, by assumption⟩
theorem names_snoc (as : List Ac) (a : Ac) (h : a.isRu = false) : namesOf (as ++ [a]) = namesOf as ++ [a.nm] := by
  unfold namesOf stepsOf
  rw [List.filterMap_append, List.map_append]
  congr 1
  have e : noRu a = some a := by unfold noRu; rw [h]; rfl
  simp [e]
theorem names_rule (as : List Ac) (a : Ac) (h : a.isRu = true) : namesOf (as ++ [a]) = namesOf as := by
  unfold namesOf stepsOf
  have e : noRu a = none := by unfold noRu; rw [h]; rfl
  rw [List.filterMap_append, List.map_append]
  simp [e]
theorem rules_snoc (as : List Ac) (a : Ac) : (rulesOf (as ++ [a])).length = (rulesOf as).length + if a.isRu = true then 1 else 0 := by
  unfold rulesOf
  rw [List.filterMap_append, List.length_append]
  congr 1
  cases h : a.isRu <;> simp [aRu, h]
theorem kind_snoc (as : List Ac) (a : Ac) (kd : Str) : kindN (as ++ [a]) kd = kindN as kd + if a.lab = kd then 1 else 0 := by
  unfold kindN
  rw [List.filter_append, List.length_append]
  congr 1
  rw [List.filter_cons]
  by_cases e : a.lab = kd
  · rw [decide_eq_true e, if_pos e]
    rfl
  · rw [decide_eq_false e, if_neg e]
    rfl
theorem GoodC.sub {as bs : List Ac} (g : GoodC as) (h : bs.Sublist as) : GoodC bs := by
  refine ⟨?_, fun w lo hi hm => g.me w lo hi (h.subset hm), fun w k hm => g.tu w k (h.subset hm), ?_, ?_, ?_, ?_⟩
  · exact List.Nodup.sublist ((h.filterMap noRu).map Ac.nm) g.nd
  · exact Nat.le_trans (h.filter _).length_le g.m
  · exact Nat.le_trans (h.filter _).length_le g.t
  · exact Nat.le_trans (h.filter _).length_le g.p
  · exact Nat.le_trans (h.filterMap _).length_le g.r
theorem room_none {as : List Ac} {kd : Str} (h : roomDue as kd = none) : (kindN as kd : Int) < mostN kd := by
  unfold roomDue at h
  split at h
  · cases h
  · omega
theorem step_none {as : List Ac} {a : Ac} (h : stepDue as a = none) (hno : a.isRu = false) : okS a.nm = true ∧ taken as a.nm = false ∧ (∀ w lo hi, a = .me w lo hi → lo ≤ hi) ∧ roomDue as a.lab = none := by
  unfold stepDue at h
  cases e : nameDue as a.nm with
  | some e2 =>
    rw [e] at h
    cases h
  | none =>
    rw [e] at h
    obtain ⟨h1, h2⟩ := nameDue_none e
    refine ⟨h1, h2, ?_⟩
    cases a with
    | ru u l n ts ps => cases hno
    | me w lo hi =>
      dsimp only at h
      split at h
      · cases h
      · refine ⟨fun w' lo' hi' z => ?_, h⟩
        cases z
        omega
    | tu w k =>
      dsimp only at h
      split at h
      · cases h
      · exact ⟨fun w' lo' hi' z => (by cases z), h⟩
    | pa w => exact ⟨fun w' lo' hi' z => (by cases z), h⟩
theorem kind_next {as : List Ac} {a : Ac} {kd : Str} {n : Nat} (hm : mostN kd = n) (h : kindN as kd ≤ n) (hr : roomDue as a.lab = none) : kindN (as ++ [a]) kd ≤ n := by
  rw [kind_snoc]
  by_cases e : a.lab = kd
  · rw [if_pos e]
    rw [e] at hr
    have := room_none hr
    omega
  · rw [if_neg e]
    exact h
theorem GoodC.next {as : List Ac} {c : Cl} (g : GoodC as) (hr : ∀ a, c = .st a → a.isRu = false) (hd : dueC as c = none) : GoodC (nextC as c) := by
  cases c with
  | ba => exact g.sub (List.dropLast_sublist as)
  | fo z => exact g
  | ru u l n ts ps =>
    obtain ⟨_, h80⟩ := rule_none hd
    have hk : ∀ kd ∈ (["measure", "turn", "part"] : List Str), kindN (as ++ [.ru u l n ts (srtP ps)]) kd = kindN as kd := fun kd hkd => by
      rw [kind_snoc, if_neg (fun z => lab_ne hkd z.symm)]
      rfl
    refine ⟨?_, fun w lo hi hm => ?_, fun w k hm => ?_, ?_, ?_, ?_, ?_⟩
    · show (namesOf (as ++ [.ru u l n ts (srtP ps)])).Nodup
      rw [names_rule as _ rfl]
      exact g.nd
    · rcases List.mem_append.mp hm with z | z
      · exact g.me w lo hi z
      · cases List.mem_singleton.mp z
    · rcases List.mem_append.mp hm with z | z
      · exact g.tu w k z
      · cases List.mem_singleton.mp z
    · show kindN (as ++ [.ru u l n ts (srtP ps)]) "measure" ≤ 6
      rw [hk _ (by decide)]
      exact g.m
    · show kindN (as ++ [.ru u l n ts (srtP ps)]) "turn" ≤ 3
      rw [hk _ (by decide)]
      exact g.t
    · show kindN (as ++ [.ru u l n ts (srtP ps)]) "part" ≤ 6
      rw [hk _ (by decide)]
      exact g.p
    · show (rulesOf (as ++ [.ru u l n ts (srtP ps)])).length ≤ 80
      rw [rules_snoc]
      show _ + 1 ≤ 80
      omega
  | st a =>
    have hno := hr a rfl
    obtain ⟨hok, htk, hle, hrm⟩ := step_none (as := as) (a := a) hd hno
    refine ⟨?_, fun w' lo' hi' hm => ?_, fun w' k' hm => ?_, kind_next (by decide) g.m hrm, kind_next (by decide) g.t hrm, kind_next (by decide) g.p hrm, ?_⟩
    · show (namesOf (as ++ [a])).Nodup
      rw [names_snoc as a hno]
      exact nd_snocS g.nd (by unfold taken at htk; exact of_decide_eq_false htk)
    · rcases List.mem_append.mp hm with z | z
      · exact g.me _ _ _ z
      · have ea := List.mem_singleton.mp z
        refine ⟨?_, hle w' lo' hi' ea.symm⟩
        rw [← ea] at hok
        exact hok
    · rcases List.mem_append.mp hm with z | z
      · exact g.tu _ _ z
      · have ea := List.mem_singleton.mp z
        rw [← ea] at hok
        exact hok
    · show (rulesOf (as ++ [a])).length ≤ 80
      rw [rules_snoc, hno]
      exact g.r
theorem srtP_mem {ps : List (Str × Int)} {p : Str × Int} (h : p ∈ srtP ps) : p ∈ ps := by
  obtain ⟨w, _, e⟩ := List.mem_filterMap.mp h
  exact List.mem_of_find?_eq_some e
theorem acs_next {as : List Ac} {c : Cl} (h : ∀ a ∈ as, AcOk a) (hr : ∀ a, c = .st a → a.isRu = false) (hc : ClOk c) : ∀ a ∈ nextC as c, AcOk a := by
  intro b hb
  cases c with
  | ba => exact h b ((List.dropLast_sublist as).subset hb)
  | fo z => exact h b hb
  | ru u l n ts ps =>
    rcases List.mem_append.mp hb with z | z
    · exact h b z
    · rw [List.mem_singleton.mp z]
      exact ⟨hc.1, hc.2.1, hc.2.2.1, fun p hp => hc.2.2.2.1 p (srtP_mem hp)⟩
  | st a =>
    rcases List.mem_append.mp hb with z | z
    · exact h b z
    · rw [List.mem_singleton.mp z]
      have hno := hr a rfl
      exact hc.1
/-! ### data of what is told -/
def dueD (e : Er) : PyData := .list [.tuple (e.its.map flD)]
theorem dp_due {K : PySem.W.Frag} {H : Hp} {l : Addr} {e : Er} (h : DueL H l (some e)) (ho : ErOk e) : Dp K H (.ref l) (dueD e) := by
  obtain ⟨q, z1, z2⟩ := h
  exact .lst (sql_of z1) (.cons (.tup (sql_ofT z2) (dp_fl ho.2)) .nil)
theorem sh_due {e : Er} (ho : ErOk e) : SeqAt.shaped (dueD e) = true := by
  obtain ⟨i1, i2, i3⟩ := lay_fl ho.2
  unfold SeqAt.shaped dueD
  simp [PyData.canLay0, PyData.canLayAll0, PyData.depth, PyData.depthAll, i1, i2]
theorem eqv_due {e : Er} (ho : ErOk e) : PyData.eqv (dueD e) (dueD e) = true := by
  obtain ⟨i1, i2, i3⟩ := lay_fl ho.2
  unfold dueD
  simp [PyData.eqv, PyData.eqvAll, i3]
end DO

namespace DO
open PySem PySem.Spec PyProof.Rows L2
section
variable {P : Program} {w : World} {K : PySem.W.Frag} {mg : Str → Option Value} {base : Heap}
/-! ### a raised error, whichever it is -/
def spRaiA {K : PySem.W.Frag} {mg : Str → Option Value} (XS : Xs K mg) (a : Addr) (cls : Value) (d : Option Addr) : Sp := fun vs H Q _ => ∃ e : Er, e.okI ∧ cls = .ref (XS.c e.ix) ∧ (match e with
  | .emp => d = none
  | e => ∃ d', d = some d' ∧ H d' = some (.xd e.fs)) ∧ vs = [.ref a] ∧ ∀ l H', H l = none → Same H H' → DueL H' l (some e) → Q (.ref l) H'
theorem fnH_raiA {XS : Xs K mg} {a f : Addr} {fd : FuncData} {oe : Obj} {cls : Value} {d : Option Addr} (F : Fun K "_law_raised" "_law_raised" sRai f fd) (RR : ∀ i, i ≤ 10 → RaiC K XS i) (mis : mg "isinstance" = none) (mve : mg "ValueError" = none)
    (hz : L2N.Zn cls d oe) (hf : ∃ vs, oe.data = .fields vs) (base' : Heap) (hb : base'.get? a = some oe) : L2H.FnH P w K mg base' CX0 1 f fd ["_law_e"] (spRaiA XS a cls d) := by
  refine ⟨fun vs H Q E h => ?_, fun A outer s H args us vs Q E p hr hot hp e0 hbd r h => ?_⟩
  · obtain ⟨e, _, _, _, rfl, _⟩ := h
    rfl
  · obtain ⟨e, hi, rfl, hd, hv, k⟩ := h
    cases e with
    | emp =>
      have hd' : d = none := hd
      exact (ok_rai_emp F (RR 10 (by decide)) hb hz.zc hf hd' mis mve).run A outer s H args us vs Q E p hr hot hp e0 hbd r ⟨hv, by rw [hd']; trivial, fun f v z => (by cases z), k⟩
    | nam i w0 =>
      obtain ⟨d', rfl, hx⟩ := hd
      have hi5 : i ≤ 5 := hi
      exact (ok_rai_nam i hi5 w0 F (RR i (by omega)) hb hz.zc hf ⟨d', rfl⟩ mis mve).run A outer s H args us vs Q E p hr hot hp e0 hbd r ⟨hv, ⟨_, hx⟩, fun f v z => ⟨d', _, rfl, hx, rfl⟩, k⟩
    | ends lo hi0 =>
      obtain ⟨d', rfl, hx⟩ := hd
      exact (ok_rai_ends lo hi0 F (RR 6 (by decide)) hb hz.zc hf ⟨d', rfl⟩ mis mve).run A outer s H args us vs Q E p hr hot hp e0 hbd r ⟨hv, ⟨_, hx⟩, fun f v z => ⟨d', _, rfl, hx, rfl⟩, k⟩
    | cnt k0 =>
      obtain ⟨d', rfl, hx⟩ := hd
      exact (ok_rai_cnt k0 F (RR 7 (by decide)) hb hz.zc hf ⟨d', rfl⟩ mis mve).run A outer s H args us vs Q E p hr hot hp e0 hbd r ⟨hv, ⟨_, hx⟩, fun f v z => ⟨d', _, rfl, hx, rfl⟩, k⟩
    | opt w0 k0 =>
      obtain ⟨d', rfl, hx⟩ := hd
      exact (ok_rai_opt w0 k0 F (RR 8 (by decide)) hb hz.zc hf ⟨d', rfl⟩ mis mve).run A outer s H args us vs Q E p hr hot hp e0 hbd r ⟨hv, ⟨_, hx⟩, fun f v z => ⟨d', _, rfl, hx, rfl⟩, k⟩
    | ful w0 =>
      obtain ⟨d', rfl, hx⟩ := hd
      exact (ok_rai_ful w0 F (RR 9 (by decide)) hb hz.zc hf ⟨d', rfl⟩ mis mve).run A outer s H args us vs Q E p hr hot hp e0 hbd r ⟨hv, ⟨_, hx⟩, fun f v z => ⟨d', _, rfl, hx, rfl⟩, k⟩
/-! ### a call, told and held against what is due -/
def CallW (C : Addr) (H : Hp) (t wv : Addr) : Cl → Prop
  | .st a => AcM H (.ref t) a ∧ a.isRu = false ∧ a.nm.cps.toList.length ≤ 900
  | .ru u l n ts ps => (∃ x, CallRu C H t u l x n ts ps wv) ∧ ts.length ≤ 900 ∧ ps.length ≤ 900 ∧ NmsOk ts
  | .ba => H t = some (.tup [.str "back"])
  | .fo z => H t = some (.tup [.str "form", .str z]) ∧ z.cps.toList.length ≤ 900
theorem CallW.at_ {C : Addr} {H : Hp} {t wv : Addr} {c : Cl} (h : CallW C H t wv c) : CallAt C H t c := by
  cases c with
  | ru u l n ts ps =>
    obtain ⟨⟨x, h1⟩, h2⟩ := h
    exact ⟨⟨x, wv, h1⟩, h2⟩
  | _ => exact h
theorem CallRu.same {C : Addr} {H H' : Hp} {t wv : Addr} {u l : Str} {x : V} {n : Int} {ts : List Tm} {ps : List (Str × Int)} (h : CallRu C H t u l x n ts ps wv) (k : Same H H') : CallRu C H' t u l x n ts ps wv := by
  obtain ⟨⟨m, pl, us, h1, h2, h3, h4⟩, h5, us2, h6, h7⟩ := h
  exact ⟨⟨m, pl, us, k _ _ h1, h2.kt (.same k), k _ _ h3, h4.kt (.same k)⟩, h5.kt (.same k), us2, h6.imp (k _ _) (k _ _), h7.kt (.same k)⟩
theorem CallW.same {C : Addr} {H H' : Hp} {t wv : Addr} {c : Cl} (h : CallW C H t wv c) (k : Same H H') : CallW C H' t wv c := by
  cases c with
  | st a => exact ⟨h.1.kt (.same k), h.2⟩
  | ru u l n ts ps =>
    obtain ⟨⟨x, h1⟩, h2⟩ := h
    exact ⟨⟨x, h1.same k⟩, h2⟩
  | ba => exact k _ _ h
  | fo z => exact ⟨k _ _ h.1, h.2⟩
def K3 (L m wv : Addr) (H H' : Hp) : Prop := ∀ b o, H b = some o → b ≠ L → b ≠ m → b ≠ wv → H' b = some o
theorem K3.same {L m wv : Addr} {H H' : Hp} (k : Same H H') : K3 L m wv H H' := fun b o e _ _ _ => k b o e
theorem K3.kp {L m wv : Addr} {H H' : Hp} (k : Kp L H H') : K3 L m wv H H' := fun b o e n _ _ => k b o e n
theorem K3.trans {L m wv : Addr} {H H1 H2 : Hp} (a : K3 L m wv H H1) (b : K3 L m wv H1 H2) : K3 L m wv H H2 := fun c o e n1 n2 n3 => b c o (a c o e n1 n2 n3) n1 n2 n3
theorem ActsR.kp {C S : Addr} {H H' : Hp} {L : Addr} {as : List Ac} {xs : List V} (h : ActsR C H L as) (k : Kp S H H') (hS : H S = some (.lst xs)) (ne : L ≠ S) : ActsR C H' L as := by
  obtain ⟨⟨ys, h1, h2⟩, h3⟩ := h
  exact ⟨⟨ys, k _ _ h1 ne, h2.kt (.kp k hS)⟩, h3⟩
theorem CallRu.kp {C S : Addr} {H H' : Hp} {t wv : Addr} {u l : Str} {x : V} {n : Int} {ts : List Tm} {ps : List (Str × Int)} {xs : List V} (h : CallRu C H t u l x n ts ps wv) (k : Kp S H H') (hS : H S = some (.lst xs)) (hd : ∀ zs q, H t = some (.tup zs) → V.ref q ∈ zs → q ≠ S) : CallRu C H' t u l x n ts ps wv := by
  have kt := Kt.kp k hS
  obtain ⟨⟨m, pl, us, h1, h2, h3, h4⟩, h5, us2, h6, h7⟩ := h
  have n1 := hd _ pl h1 (by simp)
  have n2 := hd _ wv h1 (by simp)
  exact ⟨⟨m, pl, us, kt.tup _ _ h1, h2.kt kt, k _ _ h3 n1, h4.kt kt⟩, h5.kt kt, us2, h6.imp (fun z => k _ _ z n2) (fun z => k _ _ z n2), h7.kt kt⟩
theorem ActsM.at_upd {H : Hp} {m : Addr} {xs : List V} {as : List Ac} (h : MAll H xs as) {ys : List V} (hm : H m = some (.lst ys)) (hz : as.length ≤ 200) : ActsM (upd H m (.lst xs)) m as := ⟨⟨xs, upd_same, h.kt (Kt.upd hm)⟩, hz⟩
theorem kp_eq {L : Addr} {H : Hp} {o : HO} : Kp L H (upd H L o) := Kp.upd
abbrev sTol : Stmt := top 56
theorem scTol : FnScope ["_law_card", "_law_model", "_law_call_here", "_law_due", "_law_told_here", "_law_e", "_law_before", "_law_pair"] ["_law_card", "_law_model", "_law_call_here"] (defScope sTol) := ⟨rfl, rfl, rfl, by decide +kernel, rfl, by decide +kernel, by decide +kernel⟩
def rLenSeq (K : PySem.W.Frag) : List V → Hp → VK → Prop := fun xs H Q => ∃ p ys, xs = [.ref p] ∧ (SqL K H p ys ∨ SqT K H p ys) ∧ Q (.int ys.length) H
def rRepP : List V → Hp → VK → Prop := fun xs H Q => ∃ (d : Addr) (us : List V) (ps : List (Str × Int)), xs = [.ref d] ∧ H d = some (.lst us) ∧ PAll H us ps ∧ RpOk ps ∧ Q (.str (reP ps).shown) H
def spTol (C D : Addr) : Sp := fun vs H Q _ => ∃ (p L m t wv : Addr) (as : List Ac) (c : Cl), vs = [.ref p, .ref m, .ref t] ∧ CardP D H p L ∧ ActsR C H L as ∧ ActsM H m as ∧ GoodC as ∧ (∀ a ∈ as, AcOk a) ∧ CallW C H t wv c ∧ ClOk c ∧ L ≠ m ∧ (∀ xs q, H t = some (.tup xs) → V.ref q ∈ xs → q ≠ L ∧ q ≠ m) ∧
  ∀ H' as', K3 L m wv H H' → ActsR C H' L as' → ActsM H' m as' → GoodC as' → (∀ a ∈ as', AcOk a) → Q (.bl true) H'
theorem ok_tol {C D CO : Addr} {XS : Xs K mg} (DF : Df K mg "_law_told" sTol ["_law_card", "_law_model", "_law_call_here"]) (RD : Fk P w K mg base 2 "_law_rule_due" sRdu ["_law_model", "_law_call_here"] (spRdu C)) (SD : Fk P w K mg base 2 "_law_step_due" sSdu ["_law_model", "_law_call_here"] spSdu) (LE : Fk P w K mg base 1 "_law_ends_of" sLeo ["_law_model", "_law_word_here"] spLeo) (CA : FkN P w K mg base 7 "_law_call" sCal ["_law_card", "_law_call_here"] (spCal C D XS.c)) (SA : Fk P w K mg base 4 "_law_same_act" sSac ["_law_actual", "_law_own"] (spSac C)) (SF : Fk P w K mg base 2 "_law_same_form" sSfo ["_law_actual", "_law_own"] (spSfo C)) (AC : Fk P w K mg base 2 "_law_act" sAct ["_law_call_here"] (spAct C)) (DR : Df K mg "_law_raised" sRai ["_law_e"]) (RR : ∀ i, i ≤ 10 → RaiC K XS i) (gO : mg "OfficeError" = some (.ref CO)) (xm : ∀ i, i ≤ 10 → PySem.W.exmOne K (.ref (XS.c i)) (.ref CO) = some true)
    (mis : mg "isinstance" = none) (mve : mg "ValueError" = none) (mln : mg "len" = none) (mlist : mg "list" = none) (mre : mg "repr" = none) : FnG P w K mg base 8 DF.f DF.fd ["_law_card", "_law_model", "_law_call_here"] (spTol C D) := by
  refine okG DF.fn scTol (fun vs H Q E h => ?_) (fun cdv A outer s0 H vs Q E hg0 hr h => ?_)
  · obtain ⟨p, L, m, t, wv, as, c, rfl, _⟩ := h
    rfl
  · obtain ⟨p, L, m, t, wv, as, c, rfl, hp, hA, hM, hg, hao, hcw, hcl, hLm, hdist, k⟩ := h
    have hu := hu_of hr
    refine ⟨_, (C8.pss_cut (ps_if (pt_cmpR op_eq (pe_ix (show IxR _ (rIxT K) from ix_tup) (pv 2) pe_int (fun _ _ => rfl)) pe_str (nomark _))
      (pss_one (ps_set (i := 3) scTol.nd rfl (.inl rfl) (pe_call RD.G (hr.mono (by decide)) (by rfl) RD.D.mgf RD.D.fn.kp RD.D.bd .nil pass0 (pa_cons (pv 1) (pa_cons (pv 2) pa_nil)))))
      (pss_one (ps_if (pt_cmpR op_eq (pe_ix (show IxR _ (rIxT K) from ix_tup) (pv 2) pe_int (fun _ _ => rfl)) pe_str (nomark _))
      (pss_one (ps_set (i := 3) scTol.nd rfl (.inl rfl) (pe_ifExp (pt_cmpR op_eq (pe_callB call_len_seq (by rfl) mln PySem.boot_len (pa_cons (pv 1) pa_nil)) pe_int (nomark _)) (pe_lst (pa_cons (pe_tup (pa_cons pe_str pa_nil)) pa_nil)) (pe_lst pa_nil))))
      (pss_one (ps_if (pt_cmpR op_eq (pe_ix (show IxR _ (rIxT K) from ix_tup) (pv 2) pe_int (fun _ _ => rfl)) pe_str (nomark _))
      (pss_one (ps_set (i := 3) scTol.nd rfl (.inl rfl) (pe_ifExp (pt_cmp (pc_isN (pe_call LE.G (hr.mono (by decide)) (by rfl) LE.D.mgf LE.D.fn.kp LE.D.bd .nil pass0 (pa_cons (pv 1) (pa_cons (pe_ix (show IxR _ (rIxT K) from ix_tup) (pv 2) pe_int (fun _ _ => rfl)) pa_nil))))) (pe_lst (pa_cons (pe_tup (pa_cons pe_str (pa_cons (pe_ix (show IxR _ (rIxT K) from ix_tup) (pv 2) pe_int (fun _ _ => rfl)) pa_nil))) pa_nil)) (pe_lst pa_nil))))
      (pss_one (ps_set (i := 3) scTol.nd rfl (.inl rfl) (pe_call SD.G (hr.mono (by decide)) (by rfl) SD.D.mgf SD.D.fn.kp SD.D.bd .nil pass0 (pa_cons (pv 1) (pa_cons (pv 2) pa_nil))))))))))
      (pss_cons (L2N.ps_try_as (Wout := fun _ _ _ _ => False) (i := 5) rfl rfl scTol.nd rfl rfl ⟨by rfl, by decide, .inl gO⟩ takes0N
      (fun W pn xe tk _ => (pss_one (ps_set (i := 4) scTol.nd rfl (.inl rfl) (pe_callS CA.G (hr.mono (by decide)) (by rfl) CA.D.mgf CA.D.fn.kp CA.D.bd (L2N.passAt tk) (pa_cons (pv 0) (pa_cons (pv 2) pa_nil))))))
      (fun a oe cls d pn hz hf => (pss_one (ps_ret (pe_and (pe_cmpR op_eq (pe_callB (show CallR _ _ (rLenSeq K) from call_len_seq) (by rfl) mln PySem.boot_len (pa_cons (pv 3) pa_nil)) pe_int (nomark _)) (pe_one (pe_cmpR (show OpR _ _ (rEqD K) from op_eqD hr.units) (pe_callPin (fnH_raiA DR.fn RR mis mve hz hf) hz hf (L2H.RoomH.mk (hr.mono (j := 1) (by decide)).dp (hr.mono (j := 1) (by decide)).un) (by rfl) DR.mgf DR.fn.kp DR.bd (pv 5)) (pv 3) (nomark _))))))))
      (pss_cons (ps_if (pt_cmpR op_gt (pe_callB call_len_seq (by rfl) mln PySem.boot_len (pa_cons (pv 3) pa_nil)) pe_int (nomark _))
      (pss_one (ps_never))
      pss_nil)
      (pss_cons (ps_if (pt_cmpR op_eq (pe_ix (show IxR _ (rIxT K) from ix_tup) (pv 2) pe_int (fun _ _ => rfl)) pe_str (nomark _))
      (pss_one (ps_ret (pe_call SA.G (hr.mono (by decide)) (by rfl) SA.D.mgf SA.D.fn.kp SA.D.bd .nil pass0 (pa_cons (pv 4) (pa_cons (pe_bm0 PySem.F.plainAttrs_list PySem.F.slot_list_pop PySem.F.type_list_pop mt_pop (pv 1)) pa_nil)))))
      pss_nil)
      (pss_cons (ps_if (pt_cmpR op_eq (pe_ix (show IxR _ (rIxT K) from ix_tup) (pv 2) pe_int (fun _ _ => rfl)) pe_str (nomark _))
      (pss_one (ps_ret (pe_call SF.G (hr.mono (by decide)) (by rfl) SF.D.mgf SF.D.fn.kp SF.D.bd .nil pass0 (pa_cons (pv 4) (pa_cons (pe_tup (pa_cons pe_int (pa_cons (pe_tup (pa_cons (pe_op (show OpR _ _ (rCatT K) from op_catT) (pe_tup (pa_cons (pe_ix (show IxR _ (rIxT K) from ix_tup) (pv 2) pe_int (fun _ _ => rfl)) (pa_cons pe_int pa_nil))) (pe_call LE.G (hr.mono (by decide)) (by rfl) LE.D.mgf LE.D.fn.kp LE.D.bd .nil pass0 (pa_cons (pv 1) (pa_cons (pe_ix (show IxR _ (rIxT K) from ix_tup) (pv 2) pe_int (fun _ _ => rfl)) pa_nil)))) pa_nil)) pa_nil))) pa_nil)))))
      pss_nil)
      (pss_cons (ps_expr (pe_bm PySem.F.plainAttrs_list PySem.F.slot_list_append PySem.F.type_list_append mt_append (pv 1) (pa_cons (pe_call AC.G (hr.mono (by decide)) (by rfl) AC.D.mgf AC.D.fn.kp AC.D.bd .nil pass0 (pa_cons (pv 2) pa_nil)) pa_nil)))
      (pss_cons (ps_if (pt_cmpR op_eq (pe_ix (show IxR _ (rIxT K) from ix_tup) (pv 2) pe_int (fun _ _ => rfl)) pe_str (nomark _))
      (pss_one (ps_ret (pe_call SF.G (hr.mono (by decide)) (by rfl) SF.D.mgf SF.D.fn.kp SF.D.bd .nil pass0 (pa_cons (pv 4) (pa_cons (pe_tup (pa_cons pe_int (pa_cons (pe_tup (pa_cons (pe_tup (pa_cons (pe_ix (show IxR _ (rIxT K) from ix_tup) (pv 2) pe_int (fun _ _ => rfl)) (pa_cons pe_int (pa_cons (pe_ix (show IxR _ (rIxT K) from ix_tup) (pv 2) pe_int (fun _ _ => rfl)) (pa_cons (pe_ix (show IxR _ (rIxT K) from ix_tup) (pv 2) pe_int (fun _ _ => rfl)) pa_nil))))) pa_nil)) pa_nil))) pa_nil)))))
      pss_nil)
      (pss_cons (ps_if (PW.pt (pw_and (pt_cmpR op_eq (pe_ix (show IxR _ (rIxT K) from ix_tup) (pv 2) pe_int (fun _ _ => rfl)) pe_str (nomark _)) (pw_and1 (pt_val (pe_callB call_isi (by rfl) mis (by decide +kernel) (pa_cons (pe_ix (show IxR _ (rIxT K) from ix_tup) (pv 2) pe_int (fun _ _ => rfl)) (pa_cons (pe_bltn (v := .ty "list") (by rfl) mlist (by decide +kernel) rfl) pa_nil)))))))
      (pss_cons (ps_set (i := 6) scTol.nd rfl (.inl rfl) (pe_cmpR op_eq (pe_callB (show CallR _ _ rRepP from call_reprP hg0 (Nat.lt_of_le_of_lt (Nat.add_le_add_left (by decide : 8 ≤ 64) _) hr.units)) (by rfl) mre (by decide +kernel) (pa_cons (pe_ix (show IxR _ (rIxT K) from ix_tup) (pv 2) pe_int (fun _ _ => rfl)) pa_nil)) (pe_callB (show CallR _ _ rRepP from call_reprP hg0 (Nat.lt_of_le_of_lt (Nat.add_le_add_left (by decide : 8 ≤ 64) _) hr.units)) (by rfl) mre (by decide +kernel) (pa_cons (pe_lc (own := [("_law_pair", 7)]) (g := gName 7) (tt := tYes) rfl scTol.nd (pi_list (pe_ix (show IxR _ (rIxT K) from ix_tup) (pv 2) pe_int (fun _ _ => rfl))) (blkOk_by (N := ["_law_card", "_law_model", "_law_call_here", "_law_due", "_law_told_here", "_law_e", "_law_before", "_law_pair"]) (sc := defScope sTol) (by decide +kernel)) (fun _ _ _ _ _ => pg_name (i := 7) scTol.nd rfl (Or.inl rfl)) (fun _ _ _ _ _ => pts_nil) (fun _ _ _ _ _ => (pv 7))) pa_nil)) (nomark _)))
      (pss_cons (ps_expr (pe_bm PySem.F.plainAttrs_list PySem.F.slot_list_append PySem.F.type_list_append mt_append (pe_ix (show IxR _ (rIxT K) from ix_tup) (pv 2) pe_int (fun _ _ => rfl)) (pa_cons (pe_tup (pa_cons pe_str (pa_cons pe_int pa_nil))) pa_nil)))
      (pss_cons (ps_expr (pe_bm0 PySem.F.plainAttrs_list PySem.F.slot_list_reverse PySem.F.type_list_reverse mt_reverse (pe_ix (show IxR _ (rIxT K) from ix_tup) (pv 2) pe_int (fun _ _ => rfl))))
      (pss_one (ps_ret (pe_and (pv 6) (pe_one (pe_cmp (pc_isN (pv 4))))))))))
      pss_nil)
      (pss_one (ps_ret (pe_cmp (pc_isN (pv 4))))))))))))), ?_⟩
    have hlen := hg.len
    refine ⟨fun σ' H1 => ∃ dl : Addr, σ' = [some (.ref p), some (.ref m), some (.ref t), some (.ref dl), none, none, none, none] ∧ Same H H1 ∧ H dl = none ∧ DueL H1 dl (dueC as c), ?_, ?_⟩
    · cases c with
      | st a =>
        obtain ⟨ha, hno, hz⟩ := hcw
        obtain ⟨t2, xs, e2, ht, _⟩ := ha.lab
        cases e2
        have hne : ∀ kd : Str, kd ∉ (["measure", "turn", "part"] : List Str) → decide (V.str a.lab = V.str kd) = false := fun kd hk => decide_eq_false fun z => hk (by rw [← V.str.inj z]; exact lab_in hno)
        refine ⟨_, rfl, t, _, 0, .str a.lab, rfl, rfl, sql_ofT ht, at0, rfl, _, rfl, iteF' (hne _ (by decide)) ?_⟩
        refine ⟨_, rfl, t, _, 0, .str a.lab, rfl, rfl, sql_ofT ht, at0, rfl, _, rfl, iteF' (hne _ (by decide)) ?_⟩
        refine ⟨_, rfl, t, _, 0, .str a.lab, rfl, rfl, sql_ofT ht, at0, rfl, _, rfl, iteF' (hne _ (by decide)) ?_⟩
        exact ⟨_, rfl, _, rfl, m, t, as, a, rfl, hM, ha, hno, hz, fun l H1 nl s1 hd => ⟨l, rfl, s1, nl, hd⟩⟩
      | ru u l n ts ps =>
        obtain ⟨⟨x, hru⟩, hts, hpz, hnok⟩ := hcw
        obtain ⟨⟨mf, pl, us, ht, _⟩, _⟩ := id hru
        refine ⟨_, rfl, t, _, 0, .str "rule", rfl, rfl, sql_ofT ht, at0, rfl, _, rfl, iteT' (by decide) ?_⟩
        exact ⟨_, rfl, _, rfl, m, t, wv, as, u, l, x, n, ts, ps, rfl, hM, hru, hts, hpz, fun l' H1 nl s1 hd => ⟨l', rfl, s1, nl, hd⟩⟩
      | ba =>
        have ht : H t = some (.tup [.str "back"]) := hcw
        obtain ⟨⟨ms, hm, hMA⟩, _⟩ := id hM
        refine ⟨_, rfl, t, _, 0, .str "back", rfl, rfl, sql_ofT ht, at0, rfl, _, rfl, iteF' (by decide) ?_⟩
        refine ⟨_, rfl, t, _, 0, .str "back", rfl, rfl, sql_ofT ht, at0, rfl, _, rfl, iteT' (by decide) ?_⟩
        refine ⟨_, rfl, m, ms, rfl, .inl (sql_of hm), rfl, _, rfl, ?_⟩
        have hl := hMA.len
        cases as with
        | nil =>
          rw [hl]
          refine iteT' (by decide) ?_
          refine ⟨(by show 1 ≤ sizeLine; decide), fun q nq => ⟨(by show 1 ≤ sizeLine; decide), fun l nl => ?_⟩⟩
          obtain ⟨d1, d2, d3⟩ := mk_due .emp rfl nq nl
          exact ⟨l, rfl, d2, d3, d1⟩
        | cons a r =>
          rw [hl]
          refine iteF' (decide_eq_false fun z => ?_) ?_
          · have := V.int.inj z
            rw [List.length_cons] at this
            omega
          exact ⟨Nat.zero_le _, fun l nl => ⟨l, rfl, same_upd nl, nl, upd_same⟩⟩
      | fo z =>
        obtain ⟨ht, hz⟩ := hcw
        refine ⟨_, rfl, t, _, 0, .str "form", rfl, rfl, sql_ofT ht, at0, rfl, _, rfl, iteF' (by decide) ?_⟩
        refine ⟨_, rfl, t, _, 0, .str "form", rfl, rfl, sql_ofT ht, at0, rfl, _, rfl, iteF' (by decide) ?_⟩
        refine ⟨_, rfl, t, _, 0, .str "form", rfl, rfl, sql_ofT ht, at0, rfl, _, rfl, iteT' (by decide) ?_⟩
        have hdz : dueC as (.fo z) = (match endsOf as z with | none => some (Er.nam 2 z) | some _ => none) := rfl
        refine ⟨_, rfl, _, rfl, t, _, 1, .str z, rfl, rfl, sql_ofT ht, rfl, m, as, z, rfl, hM, fun he => ⟨true, rfl, iteT' rfl ?_⟩, fun lo hi he q H1 s1 hq => ⟨false, rfl, iteF' rfl ?_⟩⟩
        · refine ⟨_, rfl, t, _, 1, .str z, rfl, rfl, sql_ofT ht, rfl, (by show 2 ≤ sizeLine; decide), fun q nq => ⟨(by show 1 ≤ sizeLine; decide), fun l nl => ?_⟩⟩
          obtain ⟨d1, d2, d3⟩ := mk_due (.nam 2 z) rfl nq nl
          rw [hdz, he]
          exact ⟨l, rfl, d2, d3, d1⟩
        · rw [hdz, he]
          exact ⟨Nat.zero_le _, fun l nl => ⟨l, rfl, s1.trans (same_upd nl), s1.free nl, upd_same⟩⟩
    rintro σ' H1 ⟨dl, rfl, s1, ndl, hdue⟩
    refine ⟨_, rfl, _, rfl, p, L, t, as, c, rfl, hp.kt (.same s1), hA.same s1, hg, (hcw.same s1).at_, fun e he => ?_, fun hn v H2 k2 hA2 hret => ?_⟩
    · have hok := due_ok he hcl
      rw [he] at hdue
      obtain ⟨qd, z1, z2⟩ := id hdue
      cases e with
      | emp =>
        intro H8 s8
        refine ⟨true, xm 10 (by decide), fun _ a2 na2 => ?_, fun z => nomatch z⟩
        refine ⟨_, rfl, dl, _, rfl, .inl (sql_of (s8 _ _ z1)), rfl, _, rfl, ?_⟩
        refine iteT' rfl ?_
        refine ⟨_, rfl, Er.emp, hok.1, rfl, rfl, rfl, fun l9 H9 nl9 s9 hr9 => ?_⟩
        refine ⟨_, rfl, dueD Er.emp, dueD Er.emp, dp_due hr9 hok, dp_due (hdue.same (s8.trans s9)) hok, sh_due hok, sh_due hok, ?_⟩
        rw [eqv_due hok]
        have s19 := s1.trans (s8.trans s9)
        exact k H9 as (K3.same s19) (hA.same s19) (hM.same s19) hg hao
      | nam i w0 =>
        intro d2 H8 nd8 s8 hd8
        have hi5 : i ≤ 5 := hok.1
        refine ⟨true, xm i (by omega), fun _ a2 na2 => ?_, fun z => nomatch z⟩
        refine ⟨_, rfl, dl, _, rfl, .inl (sql_of (s8 _ _ z1)), rfl, _, rfl, ?_⟩
        refine iteT' rfl ?_
        refine ⟨_, rfl, (Er.nam i w0), hok.1, rfl, ⟨d2, rfl, hd8⟩, rfl, fun l9 H9 nl9 s9 hr9 => ?_⟩
        refine ⟨_, rfl, dueD (Er.nam i w0), dueD (Er.nam i w0), dp_due hr9 hok, dp_due (hdue.same (s8.trans s9)) hok, sh_due hok, sh_due hok, ?_⟩
        rw [eqv_due hok]
        have s19 := s1.trans (s8.trans s9)
        exact k H9 as (K3.same s19) (hA.same s19) (hM.same s19) hg hao
      | ends lo hi =>
        intro d2 H8 nd8 s8 hd8
        refine ⟨true, xm 6 (by decide), fun _ a2 na2 => ?_, fun z => nomatch z⟩
        refine ⟨_, rfl, dl, _, rfl, .inl (sql_of (s8 _ _ z1)), rfl, _, rfl, ?_⟩
        refine iteT' rfl ?_
        refine ⟨_, rfl, (Er.ends lo hi), hok.1, rfl, ⟨d2, rfl, hd8⟩, rfl, fun l9 H9 nl9 s9 hr9 => ?_⟩
        refine ⟨_, rfl, dueD (Er.ends lo hi), dueD (Er.ends lo hi), dp_due hr9 hok, dp_due (hdue.same (s8.trans s9)) hok, sh_due hok, sh_due hok, ?_⟩
        rw [eqv_due hok]
        have s19 := s1.trans (s8.trans s9)
        exact k H9 as (K3.same s19) (hA.same s19) (hM.same s19) hg hao
      | cnt k0 =>
        intro d2 H8 nd8 s8 hd8
        refine ⟨true, xm 7 (by decide), fun _ a2 na2 => ?_, fun z => nomatch z⟩
        refine ⟨_, rfl, dl, _, rfl, .inl (sql_of (s8 _ _ z1)), rfl, _, rfl, ?_⟩
        refine iteT' rfl ?_
        refine ⟨_, rfl, (Er.cnt k0), hok.1, rfl, ⟨d2, rfl, hd8⟩, rfl, fun l9 H9 nl9 s9 hr9 => ?_⟩
        refine ⟨_, rfl, dueD (Er.cnt k0), dueD (Er.cnt k0), dp_due hr9 hok, dp_due (hdue.same (s8.trans s9)) hok, sh_due hok, sh_due hok, ?_⟩
        rw [eqv_due hok]
        have s19 := s1.trans (s8.trans s9)
        exact k H9 as (K3.same s19) (hA.same s19) (hM.same s19) hg hao
      | opt w0 k0 =>
        intro d2 H8 nd8 s8 hd8
        refine ⟨true, xm 8 (by decide), fun _ a2 na2 => ?_, fun z => nomatch z⟩
        refine ⟨_, rfl, dl, _, rfl, .inl (sql_of (s8 _ _ z1)), rfl, _, rfl, ?_⟩
        refine iteT' rfl ?_
        refine ⟨_, rfl, (Er.opt w0 k0), hok.1, rfl, ⟨d2, rfl, hd8⟩, rfl, fun l9 H9 nl9 s9 hr9 => ?_⟩
        refine ⟨_, rfl, dueD (Er.opt w0 k0), dueD (Er.opt w0 k0), dp_due hr9 hok, dp_due (hdue.same (s8.trans s9)) hok, sh_due hok, sh_due hok, ?_⟩
        rw [eqv_due hok]
        have s19 := s1.trans (s8.trans s9)
        exact k H9 as (K3.same s19) (hA.same s19) (hM.same s19) hg hao
      | ful w0 =>
        intro d2 H8 nd8 s8 hd8
        refine ⟨true, xm 9 (by decide), fun _ a2 na2 => ?_, fun z => nomatch z⟩
        refine ⟨_, rfl, dl, _, rfl, .inl (sql_of (s8 _ _ z1)), rfl, _, rfl, ?_⟩
        refine iteT' rfl ?_
        refine ⟨_, rfl, (Er.ful w0), hok.1, rfl, ⟨d2, rfl, hd8⟩, rfl, fun l9 H9 nl9 s9 hr9 => ?_⟩
        refine ⟨_, rfl, dueD (Er.ful w0), dueD (Er.ful w0), dp_due hr9 hok, dp_due (hdue.same (s8.trans s9)) hok, sh_due hok, sh_due hok, ?_⟩
        rw [eqv_due hok]
        have s19 := s1.trans (s8.trans s9)
        exact k H9 as (K3.same s19) (hA.same s19) (hM.same s19) hg hao
    rw [hn] at hdue
    have hdl1 : H1 dl = some (.lst []) := hdue
    obtain ⟨⟨xsL, hL1, _⟩, _⟩ := hA.same s1
    have hdlL : dl ≠ L := by
      obtain ⟨⟨xs0, hL0, _⟩, _⟩ := id hA
      exact (ne_of_none hL0 ndl).symm
    have hdl2 := k2 _ _ hdl1 hdlL
    have kt2 := Kt.kp k2 hL1
    have hM2 := (hM.same s1).kp k2 hL1 hLm.symm
    have k12 : K3 L m wv H H2 := (K3.same s1).trans (K3.kp k2)
    have hnR : ∀ a, c = .st a → a.isRu = false := fun a e => by subst e; exact hcw.2.1
    have hgN := hg.next hnR hn
    have haN := acs_next hao hnR hcl
    refine ⟨_, rfl, dl, [], rfl, .inl (sql_of hdl2), _, _, rfl, rfl, _, rfl, ?_⟩
    refine iteF' (by decide) ?_
    obtain ⟨⟨ms, hm2, hMA2⟩, _⟩ := id hM2
    have hml := hMA2.len
    have kH2 : Kt H H2 := (Kt.same s1).trans kt2
    have fin : ∀ (H3 : Hp) (xs : List V), H3 = upd H2 m (.lst xs) → MAll H2 xs (nextC as c) → (nextC as c).length ≤ 200 → ∀ H4, K3 L m wv H3 H4 → (∀ b o, H3 b = some o → b ≠ wv → H4 b = some o) → wv ≠ L → wv ≠ m → Kt H3 H4 → Q (.bl true) H4 := fun H3 xs e hMx hz H4 k4 kk nwL nwm kt4 => by
      subst e
      have kt3 : Kt H2 (upd H2 m (.lst xs)) := Kt.upd hm2
      refine k H4 (nextC as c) ((k12.trans (fun b o e _ n2 _ => by rw [upd_ne n2]; exact e)).trans k4) ?_ ?_ hgN haN
      · obtain ⟨⟨ys, h1, h2⟩, h3⟩ := hA2
        exact ⟨⟨ys, kk _ _ (by rw [upd_ne hLm]; exact h1) nwL.symm, (h2.kt kt3).kt kt4⟩, h3⟩
      · exact ⟨⟨xs, kk _ _ upd_same nwm.symm, (hMx.kt kt3).kt kt4⟩, hz⟩
    have finS : ∀ (xs : List V), MAll H2 xs (nextC as c) → (nextC as c).length ≤ 200 → ∀ H4, Same (upd H2 m (.lst xs)) H4 → Q (.bl true) H4 := fun xs hMx hz H4 s4 => by
      have kt3 : Kt H2 (upd H2 m (.lst xs)) := Kt.upd hm2
      refine k H4 (nextC as c) ((k12.trans (fun b o e _ n2 _ => by rw [upd_ne n2]; exact e)).trans (K3.same s4)) ?_ ?_ hgN haN
      · obtain ⟨⟨ys, h1, h2⟩, h3⟩ := hA2
        exact ⟨⟨ys, s4 _ _ (by rw [upd_ne hLm]; exact h1), (h2.kt kt3).kt (.same s4)⟩, h3⟩
      · exact ⟨⟨xs, s4 _ _ upd_same, (hMx.kt kt3).kt (.same s4)⟩, hz⟩
    cases c with
    | ba =>
      have ht2 : H2 t = some (.tup [.str "back"]) := kH2.tup _ _ hcw
      obtain ⟨a, hla, hva⟩ := hret
      obtain ⟨y, hy, hya⟩ := hMA2.last hla
      rw [List.getLast?_eq_getElem?] at hy
      have hain : a ∈ as := by
        rw [List.getLast?_eq_getElem?] at hla
        exact List.mem_of_getElem? hla
      refine ⟨_, rfl, t, _, 0, .str "back", rfl, rfl, sql_ofT ht2, at0, rfl, _, rfl, iteT' (by decide) ?_⟩
      have kt3 : Kt H2 (upd H2 m (.lst ms.dropLast)) := Kt.upd hm2
      exact ⟨_, rfl, _, rfl, .inl ⟨rfl, _, sql_of hm2⟩, m, ms, y, rfl, rfl, hm2, hy, v, y, a, rfl, hva.kt kt3, hya.kt kt3, hao a hain, fun H4 s4 => finS _ hMA2.pop (by show as.dropLast.length ≤ 200; rw [List.length_dropLast]; omega) H4 s4⟩
    | fo z =>
      have ht2 : H2 t = some (.tup [.str "form", .str z]) := kH2.tup _ _ hcw.1
      obtain ⟨f, lo, hi, rfl, he, hf⟩ := hret
      refine ⟨_, rfl, t, _, 0, .str "form", rfl, rfl, sql_ofT ht2, at0, rfl, _, rfl, iteF' (by decide) ?_⟩
      refine ⟨_, rfl, t, _, 0, .str "form", rfl, rfl, sql_ofT ht2, at0, rfl, _, rfl, iteT' (by decide) ?_⟩
      refine ⟨_, rfl, _, rfl, t, _, 1, .str z, rfl, rfl, sql_ofT ht2, rfl, (by show 2 ≤ sizeLine; decide), fun z1 nz1 => ?_⟩
      have sz1 := same_upd (o := .tup [V.str z, V.int 1]) nz1
      refine ⟨_, rfl, _, rfl, t, _, 1, .str z, rfl, rfl, sql_ofT (sz1 _ _ ht2), rfl, m, as, z, rfl, hM2.same sz1, fun he2 => ?_, fun lo2 hi2 he2 q H3 s3 hq => ?_⟩
      · rw [he] at he2
        cases he2
      rw [he] at he2
      cases he2
      refine ⟨z1, q, _, _, rfl, rfl, sql_ofT (s3 _ _ upd_same), sql_ofT hq, by simp, by show 2 + 2 ≤ sizeLine; decide, fun z => absurd z (by simp), fun _ pp npp => ?_⟩
      have sp := same_upd (o := .tup ([V.str z, V.int 1] ++ [V.int lo, V.int hi])) npp
      have hpp : (upd H3 pp (.tup ([V.str z, V.int 1] ++ [V.int lo, V.int hi]))) pp = some (.tup [V.str z, V.int 1, V.int lo, V.int hi]) := upd_same
      have s25 := (sz1.trans s3).trans sp
      generalize (upd H3 pp (.tup ([V.str z, V.int 1] ++ [V.int lo, V.int hi]))) = H5 at hpp s25
      refine ⟨(by show 1 ≤ sizeLine; decide), fun z3 nz3 => ⟨(by show 2 ≤ sizeLine; decide), fun z4 nz4 => ?_⟩⟩
      have s3' := same_upd (o := .tup [V.ref pp]) nz3
      have s4' := same_upd (o := .tup [V.int 0, V.ref z3]) nz4
      have s27 := (s25.trans s3').trans s4'
      refine ⟨f, z4, 0, [⟨z, 1, lo, hi⟩], rfl, hf.keep s27, ⟨z3, _, upd_same, s4' _ _ upd_same, .cons ⟨z, 1, lo, hi⟩ pp (s4' _ _ (s3' _ _ hpp)) .nil⟩, fun x hx => ?_, fun H8 s8 => ?_⟩
      · rw [List.mem_singleton.mp hx]
        exact hcl
      · have s28 := s27.trans s8
        exact k H8 as (k12.trans (K3.same s28)) (hA2.same s28) (hM2.same s28) hgN haN
    | st a =>
      obtain ⟨ha, hno, hz⟩ := hcw
      have ha2 := ha.kt kH2
      obtain ⟨t2, xs, e2, ht2, _⟩ := ha2.lab
      cases e2
      have hne : ∀ kd : Str, kd ∉ (["measure", "turn", "part"] : List Str) → decide (V.str a.lab = V.str kd) = false := fun kd hk => decide_eq_false fun z => hk (by rw [← V.str.inj z]; exact lab_in hno)
      refine ⟨_, rfl, t, _, 0, .str a.lab, rfl, rfl, sql_ofT ht2, at0, rfl, _, rfl, iteF' (hne _ (by decide)) ?_⟩
      refine ⟨_, rfl, t, _, 0, .str a.lab, rfl, rfl, sql_ofT ht2, at0, rfl, _, rfl, iteF' (hne _ (by decide)) ?_⟩
      refine ⟨_, rfl, .inl ⟨rfl, _, sql_of hm2⟩, _, rfl, t, .st a, rfl, ⟨ha2, hno, hz⟩, m, ms, _, rfl, rfl, hm2, small1000 (by omega), ?_⟩
      have kt3 : Kt H2 (upd H2 m (.lst (ms ++ [.ref t]))) := Kt.upd hm2
      have hMn : MAll H2 (ms ++ [.ref t]) (nextC as (.st a)) := hMA2.app (.one ha2)
      have hzn : (nextC as (.st a)).length ≤ 200 := by show (as ++ [a]).length ≤ 200; rw [List.length_append]; show as.length + 1 ≤ 200; omega
      have fs := finS _ hMn hzn
      have ha3 := ha2.kt kt3
      have hret3 : RetAt C (upd H2 m (.lst (ms ++ [.ref t]))) v as (.st a) := by
        cases a with
        | me w lo hi =>
          obtain ⟨f, e, hf⟩ := hret
          exact ⟨f, e, hf.kt kt3⟩
        | _ => exact hret
      generalize (upd H2 m (.lst (ms ++ [.ref t]))) = H3 at fs ha3 hret3
      cases a with
      | ru u l n ts ps => cases hno
      | me w lo hi =>
        obtain ⟨t4, xs4, e4, ht3, rfl⟩ := ha3
        cases e4
        obtain ⟨f, rfl, hf⟩ := hret3
        refine ⟨_, rfl, t, _, 0, .str "measure", rfl, rfl, sql_ofT ht3, at0, rfl, _, rfl, iteT' (by decide) ?_⟩
        refine ⟨_, rfl, _, rfl, t, _, 1, .str w, rfl, rfl, sql_ofT ht3, rfl, _, rfl, t, _, 2, .int lo, rfl, rfl, sql_ofT ht3, rfl, _, rfl, t, _, 3, .int hi, rfl, rfl, sql_ofT ht3, rfl, (by show 4 ≤ sizeLine; decide), fun z1 nz1 => ⟨(by show 1 ≤ sizeLine; decide), fun z3 nz3 => ⟨(by show 2 ≤ sizeLine; decide), fun z4 nz4 => ?_⟩⟩⟩
        have q1 := same_upd (o := .tup [V.str w, V.int 1, V.int lo, V.int hi]) nz1
        have q3 := same_upd (o := .tup [V.ref z1]) nz3
        have q4 := same_upd (o := .tup [V.int 0, V.ref z3]) nz4
        have q14 := (q1.trans q3).trans q4
        refine ⟨f, z4, 0, [⟨w, 1, lo, hi⟩], rfl, hf.keep q14, ⟨z3, _, upd_same, q4 _ _ upd_same, .cons ⟨w, 1, lo, hi⟩ z1 (q4 _ _ (q3 _ _ upd_same)) .nil⟩, fun x hx => ?_, fun H8 s8 => fs H8 (q14.trans s8)⟩
        rw [List.mem_singleton.mp hx]
        exact hcl.2
      | tu w n0 =>
        obtain ⟨t4, xs4, e4, ht3, rfl⟩ := ha3
        cases e4
        have ev : v = .non := hret3
        subst ev
        refine ⟨_, rfl, t, _, 0, .str "turn", rfl, rfl, sql_ofT ht3, at0, rfl, _, rfl, iteF' (by decide) ?_⟩
        refine ⟨_, rfl, t, _, 0, .str "turn", rfl, rfl, sql_ofT ht3, at0, rfl, _, rfl, iteF' (by decide) ?_⟩
        exact ⟨_, rfl, fs H3 (.refl _)⟩
      | pa w =>
        obtain ⟨t4, xs4, e4, ht3, rfl⟩ := ha3
        cases e4
        have ev : v = .non := hret3
        subst ev
        refine ⟨_, rfl, t, _, 0, .str "part", rfl, rfl, sql_ofT ht3, at0, rfl, _, rfl, iteF' (by decide) ?_⟩
        refine ⟨_, rfl, t, _, 0, .str "part", rfl, rfl, sql_ofT ht3, at0, rfl, _, rfl, iteF' (by decide) ?_⟩
        exact ⟨_, rfl, fs H3 (.refl _)⟩
    | ru u l n ts ps =>
      obtain ⟨⟨x, hru⟩, hts, hpz, hnok⟩ := hcw
      obtain ⟨hwd, _⟩ := rule_none (as := as) (u := u) (l := l) (ts := ts) (ps := ps) hn
      obtain ⟨_, hnd⟩ := when_nd hwd
      obtain ⟨_, _, _, _, hrp⟩ := id hcl
      have hd1 : ∀ zs q, H1 t = some (.tup zs) → V.ref q ∈ zs → q ≠ L := fun zs q hz1 hq => by
        obtain ⟨⟨mf, pl, us, ht, _⟩, _⟩ := id hru
        have := s1 _ _ ht
        rw [this] at hz1
        cases hz1
        exact (hdist _ q ht hq).1
      have hru2 := (hru.same s1).kp k2 hL1 hd1
      obtain ⟨⟨mf, pl, us, ht2, hmf, hpl, hps⟩, hop, us2, hw, hps2⟩ := id hru2
      have hdm : ∀ q, V.ref q ∈ [V.str "rule", V.str u, V.str l, x, V.ref mf, V.ref pl, V.ref wv] → q ≠ L ∧ q ≠ m := fun q hq => by
        obtain ⟨⟨mf0, pl0, us0, ht0, _⟩, _⟩ := id hru
        have := kH2.tup _ _ ht0
        rw [this] at ht2
        cases ht2
        exact hdist _ q ht0 hq
      obtain ⟨nwL, nwm⟩ := hdm wv (by simp)
      obtain ⟨npL, npm⟩ := hdm pl (by simp)
      have ev : v = .non := hret
      subst ev
      refine ⟨_, rfl, t, _, 0, .str "rule", rfl, rfl, sql_ofT ht2, at0, rfl, _, rfl, iteF' (by decide) ?_⟩
      refine ⟨_, rfl, t, _, 0, .str "rule", rfl, rfl, sql_ofT ht2, at0, rfl, _, rfl, iteF' (by decide) ?_⟩
      refine ⟨_, rfl, .inl ⟨rfl, _, sql_of hm2⟩, _, rfl, t, .ru u l n ts ps, rfl, ⟨⟨x, wv, hru2⟩, hts, hpz, hnok⟩, hnd, fun va H3 s3 hva => ?_⟩
      have hm3 := s3 _ _ hm2
      refine ⟨m, ms, _, rfl, rfl, hm3, small1000 (by omega), ?_⟩
      have kt3 : Kt H3 (upd H3 m (.lst (ms ++ [va]))) := Kt.upd hm3
      have kt23 := (Kt.same s3).trans kt3
      have ht4 := kt23.tup _ _ ht2
      have hpl4 : (upd H3 m (.lst (ms ++ [va]))) pl = some (.lst us) := by rw [upd_ne npm]; exact s3 _ _ hpl
      have hps4 := hps.kt kt23
      have hps24 := hps2.kt kt23
      have hw4 : (upd H3 m (.lst (ms ++ [va]))) wv = some (.lst us2) ∨ (upd H3 m (.lst (ms ++ [va]))) wv = some (.tup us2) := hw.imp (fun z => by rw [upd_ne nwm]; exact s3 _ _ z) (fun z => by rw [upd_ne nwm]; exact s3 _ _ z)
      have hA4 : ActsR C (upd H3 m (.lst (ms ++ [va]))) L (nextC as (.ru u l n ts ps)) := by
        obtain ⟨⟨ys, h1, h2⟩, h3⟩ := hA2
        exact ⟨⟨ys, by rw [upd_ne hLm]; exact s3 _ _ h1, h2.kt kt23⟩, h3⟩
      have hM4 : ActsM (upd H3 m (.lst (ms ++ [va]))) m (nextC as (.ru u l n ts ps)) := ⟨⟨_, upd_same, ((hMA2.kt (.same s3)).kt kt3).app (.one (hva.kt kt3))⟩, by show (as ++ [_]).length ≤ 200; rw [List.length_append]; show as.length + 1 ≤ 200; omega⟩
      have k14 : K3 L m wv H (upd H3 m (.lst (ms ++ [va]))) := (k12.trans (K3.same s3)).trans (fun b o e _ n2 _ => by rw [upd_ne n2]; exact e)
      generalize (upd H3 m (.lst (ms ++ [va]))) = H4 at ht4 hpl4 hps4 hps24 hw4 hA4 hM4 k14
      refine ⟨_, rfl, t, _, 0, .str "rule", rfl, rfl, sql_ofT ht4, at0, rfl, _, rfl, iteF' (by decide) ?_⟩
      refine ⟨_, rfl, t, _, 0, .str "rule", rfl, rfl, sql_ofT ht4, at0, rfl, _, rfl, iteT' (by decide) ?_⟩
      rcases hw4 with hw4 | hw4
      · refine ⟨_, rfl, t, _, 6, .ref wv, rfl, rfl, sql_ofT ht4, rfl, _, _, _, _, true, rfl, .ty "list", .base (.lst hw4), kit_ty (by decide +kernel), true, rfl, iteT' rfl ?_⟩
        refine ⟨_, rfl, t, _, 6, .ref wv, rfl, rfl, sql_ofT ht4, rfl, wv, us2, ps, rfl, hw4, hps24, hrp, ?_⟩
        refine ⟨_, rfl, t, _, 5, .ref pl, rfl, rfl, sql_ofT ht4, rfl, pl, rfl, ⟨_, sql_of hpl4⟩, fun E1 nE => ?_⟩
        refine lc_pick walk_list ps (fun p => some p) PairT (fun _ _ _ _ q z => z.kt q) nE (fun H2 s2 => sql_of (s2 _ _ hpl4)) hps4.len (by have := hps4.len; omega) (fun i x d H5 Yes No hx hd s5 hY hN => ?_) (fun H5 zs hE2 hZ2 s5 => ?_)
        · obtain ⟨d', hd', hxd⟩ := hps4.at_ hx
          obtain rfl : d' = d := Option.some.inj (hd'.symm.trans hd)
          exact ⟨rfl, _, rfl, hY _ _ d' rfl (.refl _) (hxd.kt (.same s5))⟩
        have hZ3 : PAll H5 zs ps := by
          have e : ps.filterMap (fun p => some p) = ps := by simp
          rw [e] at hZ2
          exact hZ2
        have ht5 := s5 _ _ ht4
        have hw5 := s5 _ _ hw4
        have hul := hps24.len
        refine ⟨E1, zs, ps, rfl, hE2, hZ3, hrp, rfl, ?_⟩
        refine ⟨_, rfl, t, _, 6, .ref wv, rfl, rfl, sql_ofT ht5, rfl, .inl ⟨rfl, _, sql_of hw5⟩, (by show 2 ≤ sizeLine; decide), fun q nq => ?_⟩
        have sq := same_upd (o := .tup [V.str "spoilt", V.int 0]) nq
        refine ⟨wv, us2, _, rfl, rfl, sq _ _ hw5, (by have := hrp.sz; exact small1000 (by omega)), ?_⟩
        have ktw : Kt (upd H5 q (.tup [V.str "spoilt", V.int 0])) (upd (upd H5 q (.tup [V.str "spoilt", V.int 0])) wv (.lst (us2 ++ [V.ref q]))) := Kt.upd (sq _ _ hw5)
        have ht6 := ktw.tup _ _ (sq _ _ ht5)
        have hw6 : (upd (upd H5 q (.tup [V.str "spoilt", V.int 0])) wv (.lst (us2 ++ [V.ref q]))) wv = some (.lst (us2 ++ [V.ref q])) := upd_same
        have s6 := s5.trans sq
        have kk6 : ∀ b o, H4 b = some o → b ≠ wv → (upd (upd H5 q (.tup [V.str "spoilt", V.int 0])) wv (.lst (us2 ++ [V.ref q]))) b = some o := fun b o e nb => by rw [upd_ne nb]; exact s6 _ _ e
        have kt6 := (Kt.same s6).trans ktw
        generalize (upd (upd H5 q (.tup [V.str "spoilt", V.int 0])) wv (.lst (us2 ++ [V.ref q]))) = H6 at ht6 hw6 kk6 kt6
        refine ⟨_, rfl, t, _, 6, .ref wv, rfl, rfl, sql_ofT ht6, rfl, .inl ⟨rfl, _, sql_of hw6⟩, wv, _, rfl, rfl, hw6, ?_⟩
        have kt7 : Kt H6 (upd H6 wv (.lst (us2 ++ [V.ref q]).reverse)) := Kt.upd hw6
        refine ⟨_, rfl, true, (by rw [decide_eq_true rfl]), iteT' rfl ⟨_, rfl, ?_⟩⟩
        have kk7 : ∀ b o, H4 b = some o → b ≠ wv → (upd H6 wv (.lst (us2 ++ [V.ref q]).reverse)) b = some o := fun b o e nb => by rw [upd_ne nb]; exact kk6 _ _ e nb
        refine k _ _ (k14.trans fun b o e _ _ n3 => kk7 b o e n3) ?_ ?_ hgN haN
        · obtain ⟨⟨ys, h1, h2⟩, h3⟩ := hA4
          exact ⟨⟨ys, kk7 _ _ h1 nwL.symm, h2.kt (kt6.trans kt7)⟩, h3⟩
        · obtain ⟨⟨ys, h1, h2⟩, h3⟩ := hM4
          exact ⟨⟨ys, kk7 _ _ h1 nwm.symm, h2.kt (kt6.trans kt7)⟩, h3⟩
      · refine ⟨_, rfl, t, _, 6, .ref wv, rfl, rfl, sql_ofT ht4, rfl, _, _, _, _, false, rfl, .ty "list", .base (.tup hw4), kit_ty (by decide +kernel), false, rfl, iteF' rfl ?_⟩
        exact ⟨_, rfl, k _ _ k14 hA4 hM4 hgN haN⟩
end
end DO

namespace DO
open PySem PySem.Spec PyProof.Rows L2
section
variable {P : Program} {w : World} {K : PySem.W.Frag} {mg : Str → Option Value} {base : Heap}
/-! ### drawing -/
theorem atV_mem {α : Type} {l : List α} {i : Int} (h0 : 0 ≤ i) (h1 : i < l.length) : ∃ c ∈ l, atI l i = some c := by
  obtain ⟨j, rfl⟩ := Int.eq_ofNat_of_zero_le h0
  have hj : j < l.length := by omega
  exact ⟨l[j], List.getElem_mem hj, atI_nat (List.getElem?_eq_getElem hj)⟩
theorem nml_at {ns : List (List Nat)} {x : V} (h : x ∈ NmL ns) : ∃ ds ∈ ns, x = .str (tx ds) := by
  obtain ⟨ds, h1, h2⟩ := List.mem_map.mp h
  exact ⟨ds, h1, h2.symm⟩
theorem nml_len (ns : List (List Nat)) : (NmL ns).length = ns.length := by
  unfold NmL
  rw [List.length_map]
theorem small200 {n : Nat} (h : n ≤ 1000) : n < 2 ^ 200 := Nat.lt_of_le_of_lt h (by decide)
theorem azn_small : ∀ c ∈ azn.cps.toList, c < 0x110000 := by decide +kernel
theorem Nm.st {ds : List Nat} (h : Nm ds) : PyData.strOk (tx ds) = true := by
  unfold PyData.strOk
  rw [← Array.all_toList, tx_list]
  exact List.all_eq_true.mpr fun x hx => decide_eq_true (azn_small x (h.wd.all x hx))
theorem Nm.ok {ds : List Nat} (h : Nm ds) : okNm ds = true := by
  obtain ⟨⟨c, r, rfl, h1, h2⟩, hl, hf⟩ := h
  unfold okNm
  rw [isNm_cons]
  have e3 : ((c :: r).all fun x => decide (x ∈ azn.cps.toList)) = true := List.all_eq_true.mpr fun x hx => by
    rcases List.mem_cons.mp hx with z | z
    · rw [z]
      exact decide_eq_true (az_sub _ h1)
    · exact decide_eq_true (h2 x z)
  rw [e3, decide_eq_true hl, decide_eq_true h1, decide_eq_false hf]
  rfl
abbrev sAny : Stmt := top 57
theorem scAny : FnScope ["_law_source_here", "_law_first", "_law_second"] ["_law_source_here", "_law_first", "_law_second"] (defScope sAny) := ⟨rfl, rfl, rfl, by decide +kernel, rfl, by decide +kernel, by decide +kernel⟩
def spAny : Sp := fun vs H Q _ => ∃ (a c f g : Addr) (xs ys : List V), vs = [.ref a, .ref f, .ref g] ∧ Src H a c ∧ f ≠ a ∧ g ≠ a ∧ H f = some (.lst xs) ∧ H g = some (.lst ys) ∧ 0 < ys.length ∧ xs.length ≤ 1000 ∧ ys.length ≤ 1000 ∧ ∀ x H', (x ∈ xs ∨ x ∈ ys) → Kp a H H' → Src H' a c → Q x H'
theorem ok_any (D : Df K mg "_law_any" sAny ["_law_source_here", "_law_first", "_law_second"]) (TT : Fk P w K mg base 2 "_law_take" sTake ["_law_source_here", "_law_many"] spTake) (mln : mg "len" = none) : FnOk P w K mg base CX0 3 D.f D.fd ["_law_source_here", "_law_first", "_law_second"] spAny := by
  refine D.fn.ok scAny (fun vs H Q E h => ?_) (fun cdv A outer s H vs Q E hr h => ?_)
  · obtain ⟨a, c, f, g, xs, ys, rfl, _⟩ := h
    rfl
  · obtain ⟨a, c, f, g, xs, ys, rfl, sr, nf, ng, hf, hg, hp, hx, hy, k⟩ := h
    refine ⟨_, (pss_cons (ps_if (PW.pt (pw_and (pt_cmpR op_gt (pe_callB call_len_seq (by rfl) mln PySem.boot_len (pa_cons (pv 1) pa_nil)) pe_int (nomark _)) (pw_and1 (pt_cmpR op_gt (pe_call TT.G (hr.mono (by decide)) (by rfl) TT.D.mgf TT.D.fn.kp TT.D.bd .nil pass0 (pa_cons (pv 0) (pa_cons pe_int pa_nil))) pe_int (nomark _)))))
      (pss_one (ps_ret (pe_ix ix_list (pv 1) (pe_call TT.G (hr.mono (by decide)) (by rfl) TT.D.mgf TT.D.fn.kp TT.D.bd .nil pass0 (pa_cons (pv 0) (pa_cons (pe_callB call_len_seq (by rfl) mln PySem.boot_len (pa_cons (pv 1) pa_nil)) pa_nil))) (fun _ _ => rfl))))
      pss_nil)
      (pss_one (ps_ret (pe_ix ix_list (pv 2) (pe_call TT.G (hr.mono (by decide)) (by rfl) TT.D.mgf TT.D.fn.kp TT.D.bd .nil pass0 (pa_cons (pv 0) (pa_cons (pe_callB call_len_seq (by rfl) mln PySem.boot_len (pa_cons (pv 2) pa_nil)) pa_nil))) (fun _ _ => rfl))))), ?_⟩
    refine ⟨_, rfl, f, xs, rfl, .inl (sql_of hf), _, _, rfl, rfl, _, rfl, ite2 (fun e => ?_) (fun e => ?_)⟩
    · have hx0 : 0 < xs.length := by
        have : (xs.length : Int) > 0 := of_decide_eq_true e
        omega
      refine ⟨_, rfl, a, c, 4, rfl, sr, by decide, by decide, fun t1 H1 _ _ kp1 sr1 => ⟨_, _, rfl, rfl, _, rfl, ite2 (fun _ => ?_) (fun _ => ?_)⟩⟩
      · refine ⟨_, rfl, _, rfl, _, rfl, f, xs, rfl, .inl (sql_of (kp1 _ _ hf nf)), a, c, _, rfl, sr1, (by omega), small200 (by omega), fun t H2 t0 t1 kp2 sr2 => ?_⟩
        obtain ⟨x, hxm, hxe⟩ := atV_mem (l := xs) t0 t1
        exact ⟨f, xs, t, x, rfl, rfl, sql_of (kp2 _ _ (kp1 _ _ hf nf) nf), hxe, k x H2 (.inl hxm) (kp1.trans kp2) sr2⟩
      · refine ⟨_, rfl, _, rfl, _, rfl, g, ys, rfl, .inl (sql_of (kp1 _ _ hg ng)), a, c, _, rfl, sr1, (by omega), small200 (by omega), fun t H2 t0 t1 kp2 sr2 => ?_⟩
        obtain ⟨x, hxm, hxe⟩ := atV_mem (l := ys) t0 t1
        exact ⟨g, ys, t, x, rfl, rfl, sql_of (kp2 _ _ (kp1 _ _ hg ng) ng), hxe, k x H2 (.inr hxm) (kp1.trans kp2) sr2⟩
    · refine ⟨_, rfl, _, rfl, _, rfl, g, ys, rfl, .inl (sql_of hg), a, c, _, rfl, sr, (by omega), small200 (by omega), fun t H2 t0 t1 kp2 sr2 => ?_⟩
      obtain ⟨x, hxm, hxe⟩ := atV_mem (l := ys) t0 t1
      exact ⟨g, ys, t, x, rfl, rfl, sql_of (kp2 _ _ hg ng), hxe, k x H2 (.inr hxm) kp2 sr2⟩
abbrev sScl : Stmt := top 58
theorem scScl : FnScope ["_law_source_here", "_law_label", "_law_names_here", "_law_word_here", "_law_bad", "_law_floor", "_law_roof"] ["_law_source_here", "_law_label", "_law_names_here"] (defScope sScl) := ⟨rfl, rfl, rfl, by decide +kernel, rfl, by decide +kernel, by decide +kernel⟩
def W12s : List Str := ["", "frame", "0a", "Ab", "aB", "a b", "a_b", "a-", "abcdefghijklm", "frame ", "frames", "abcdefghijkl"]
def W12 : List V := [.str "", .str "frame", .str "0a", .str "Ab", .str "aB", .str "a b", .str "a_b", .str "a-", .str "abcdefghijklm", .str "frame ", .str "frames", .str "abcdefghijkl"]
theorem w12_ok : (W12s.all fun w => PyData.strOk w && decide (w.cps.toList.length ≤ 20)) = true := by decide +kernel
theorem w12_at {x : V} (h : x ∈ W12) : ∃ w : Str, x = .str w ∧ PyData.strOk w = true ∧ w.cps.toList.length ≤ 900 := by
  have e : W12 = W12s.map V.str := rfl
  rw [e] at h
  obtain ⟨w, hw, rfl⟩ := List.mem_map.mp h
  have := List.all_eq_true.mp w12_ok w hw
  rw [Bool.and_eq_true] at this
  exact ⟨w, rfl, this.1, Nat.le_trans (of_decide_eq_true this.2) (by decide)⟩
theorem nm_word {ns : List (List Nat)} (hn : ∀ ds ∈ ns, Nm ds) {x : V} (h : x ∈ NmL ns) : ∃ w : Str, x = .str w ∧ PyData.strOk w = true ∧ w.cps.toList.length ≤ 900 := by
  obtain ⟨ds, hd, rfl⟩ := nml_at h
  exact ⟨tx ds, rfl, (hn ds hd).st, by rw [tx_list]; exact Nat.le_trans (hn ds hd).len (by decide)⟩
theorem Src.at_ {H : Hp} {a c : Addr} (h : Src H a c) : ∃ xs, H a = some (.lst xs) := by
  obtain ⟨a0, a1, ns, h1, _⟩ := h
  exact ⟨_, h1⟩
theorem Src.free {H H' : Hp} {a c t : Addr} (k : Kp a H H') (s : Src H' a c) (h : H' t = none) : H t = none := by
  obtain ⟨xs, hx⟩ := s.at_
  exact k.free hx h
def spScl : Sp := fun vs H Q _ => ∃ (a c nl : Addr) (lab : Str) (ns : List (List Nat)), vs = [.ref a, .str lab, .ref nl] ∧ Src H a c ∧ nl ≠ a ∧ H nl = some (.lst (NmL ns)) ∧ 0 < ns.length ∧ ns.length ≤ 900 ∧ (∀ ds ∈ ns, Nm ds) ∧ lab ∈ (["measure", "turn", "part"] : List Str) ∧
  ∀ t H' ac, H t = none → Kp a H H' → Src H' a c → AcM H' (.ref t) ac → ac.isRu = false → AcOk ac → PyData.strOk ac.nm = true → ac.nm.cps.toList.length ≤ 900 → Q (.ref t) H'
theorem ok_scl (D : Df K mg "_law_step_call" sScl ["_law_source_here", "_law_label", "_law_names_here"]) (TT : Fk P w K mg base 2 "_law_take" sTake ["_law_source_here", "_law_many"] spTake) (NU : Fk P w K mg base 3 "_law_number" sNumber ["_law_source_here"] spNumber) (mln : mg "len" = none) : FnOk P w K mg base CX0 4 D.f D.fd ["_law_source_here", "_law_label", "_law_names_here"] spScl := by
  refine D.fn.ok scScl (fun vs H Q E h => ?_) (fun cdv A outer s H vs Q E hr h => ?_)
  · obtain ⟨a, c, nl, lab, ns, rfl, _⟩ := h
    rfl
  · obtain ⟨a, c, nl, lab, ns, rfl, sr, nna, hnl, hn0, hn1, hnm, hlab, k⟩ := h
    refine ⟨_, (pss_cons (ps_set (i := 3) scScl.nd rfl (.inl rfl) (pe_ix ix_list (pv 2) (pe_call TT.G (hr.mono (by decide)) (by rfl) TT.D.mgf TT.D.fn.kp TT.D.bd .nil pass0 (pa_cons (pv 0) (pa_cons (pe_callB call_len_seq (by rfl) mln PySem.boot_len (pa_cons (pv 2) pa_nil)) pa_nil))) (fun _ _ => rfl)))
      (C8.pss_cut (ps_if (pt_cmpR op_eq (pe_call TT.G (hr.mono (by decide)) (by rfl) TT.D.mgf TT.D.fn.kp TT.D.bd .nil pass0 (pa_cons (pv 0) (pa_cons pe_int pa_nil))) pe_int (nomark _))
      (pss_cons (ps_set (i := 4) scScl.nd rfl (.inl rfl) (pe_lst (pa_cons pe_str (pa_cons pe_str (pa_cons pe_str (pa_cons pe_str (pa_cons pe_str (pa_cons pe_str (pa_cons pe_str (pa_cons pe_str (pa_cons pe_str (pa_cons pe_str pa_nil))))))))))))
      (pss_one (ps_set (i := 3) scScl.nd rfl (.inl rfl) (pe_ix ix_list (pe_op op_cat (pv 4) (pe_lst (pa_cons pe_str (pa_cons pe_str pa_nil)))) (pe_call TT.G (hr.mono (by decide)) (by rfl) TT.D.mgf TT.D.fn.kp TT.D.bd .nil pass0 (pa_cons (pv 0) (pa_cons pe_int pa_nil))) (fun _ _ => rfl)))))
      pss_nil)
      (pss_cons (ps_if (pt_cmpR op_eq (pv 1) pe_str (nomark _))
      (pss_one (ps_ret (pe_tup (pa_cons pe_str (pa_cons (pv 3) pa_nil)))))
      pss_nil)
      (pss_cons (ps_if (pt_cmpR op_eq (pv 1) pe_str (nomark _))
      (pss_one (ps_ret (pe_tup (pa_cons pe_str (pa_cons (pv 3) (pa_cons (pe_op op_subL (pe_call TT.G (hr.mono (by decide)) (by rfl) TT.D.mgf TT.D.fn.kp TT.D.bd .nil pass0 (pa_cons (pv 0) (pa_cons pe_int pa_nil))) pe_int) pa_nil))))))
      pss_nil)
      (pss_cons (ps_set (i := 5) scScl.nd rfl (.inl rfl) (pe_call NU.G (hr.mono (by decide)) (by rfl) NU.D.mgf NU.D.fn.kp NU.D.bd .nil pass0 (pa_cons (pv 0) pa_nil)))
      (C8.pss_cut (ps_set (i := 6) scScl.nd rfl (.inl rfl) (pe_ifExp (pt_cmpR op_eq (pe_call TT.G (hr.mono (by decide)) (by rfl) TT.D.mgf TT.D.fn.kp TT.D.bd .nil pass0 (pa_cons (pv 0) (pa_cons pe_int pa_nil))) pe_int (nomark _)) (pv 5) (pe_call NU.G (hr.mono (by decide)) (by rfl) NU.D.mgf NU.D.fn.kp NU.D.bd .nil pass0 (pa_cons (pv 0) pa_nil))))
      (pss_cons (ps_if (PW.pt (pw_and (pt_cmpR op_gt (pe_call TT.G (hr.mono (by decide)) (by rfl) TT.D.mgf TT.D.fn.kp TT.D.bd .nil pass0 (pa_cons (pv 0) (pa_cons pe_int pa_nil))) pe_int (nomark _)) (pw_and1 (pt_cmpR op_lt (pv 6) (pv 5) (nomark _)))))
      (pss_one (ps_ret (pe_tup (pa_cons pe_str (pa_cons (pv 3) (pa_cons (pv 6) (pa_cons (pv 5) pa_nil)))))))
      pss_nil)
      (pss_one (ps_ret (pe_tup (pa_cons pe_str (pa_cons (pv 3) (pa_cons (pv 5) (pa_cons (pv 6) pa_nil)))))))))))))), ?_⟩
    have hln := nml_len ns
    refine ⟨_, rfl, _, rfl, _, rfl, nl, NmL ns, rfl, .inl (sql_of hnl), a, c, _, rfl, sr, (by omega), small200 (by omega), fun t H1 t0 t1 kp1 sr1 => ?_⟩
    obtain ⟨x, hxm, hxe⟩ := atV_mem (l := NmL ns) t0 t1
    obtain ⟨w1, rfl, hw1, hw2⟩ := nm_word hnm hxm
    refine ⟨nl, NmL ns, t, _, rfl, rfl, sql_of (kp1 _ _ hnl nna), hxe, ?_⟩
    refine ⟨fun σ' H' => ∃ (w2 : Str) (x4 : Option V), σ' = [some (.ref a), some (.str lab), some (.ref nl), some (.str w2), x4, none, none] ∧ PyData.strOk w2 = true ∧ w2.cps.toList.length ≤ 900 ∧ Kp a H H' ∧ Src H' a c, ?_, ?_⟩
    · refine ⟨_, rfl, a, c, 6, rfl, sr1, by decide, by decide, fun t2 H2 _ _ kp2 sr2 => ?_⟩
      have kp12 := kp1.trans kp2
      refine ⟨rfl, _, rfl, ite2 (fun _ => ?_) (fun _ => ⟨w1, none, rfl, hw1, hw2, kp12, sr2⟩)⟩
      refine ⟨(by show 10 ≤ sizeLine; decide), fun bl nbl => ?_⟩
      have sb := same_upd (o := .lst [V.str "", V.str "frame", V.str "0a", V.str "Ab", V.str "aB", V.str "a b", V.str "a_b", V.str "a-", V.str "abcdefghijklm", V.str "frame "]) nbl
      refine ⟨_, rfl, (by show 2 ≤ sizeLine; decide), fun b2 nb2 => ?_⟩
      have sb2 := same_upd (o := .lst [V.str "frames", V.str "abcdefghijkl"]) nb2
      refine ⟨bl, b2, _, _, rfl, rfl, sb2 _ _ upd_same, upd_same, (by show 12 ≤ sizeLine; decide), fun b3 nb3 => ?_⟩
      have sb3 := same_upd (o := .lst ([V.str "", V.str "frame", V.str "0a", V.str "Ab", V.str "aB", V.str "a b", V.str "a_b", V.str "a-", V.str "abcdefghijklm", V.str "frame "] ++ [V.str "frames", V.str "abcdefghijkl"])) nb3
      have ss := (sb.trans sb2).trans sb3
      have sr3 := sr2.of_same ss
      have hb3 : (upd (upd (upd H2 bl (.lst [V.str "", V.str "frame", V.str "0a", V.str "Ab", V.str "aB", V.str "a b", V.str "a_b", V.str "a-", V.str "abcdefghijklm", V.str "frame "])) b2 (.lst [V.str "frames", V.str "abcdefghijkl"])) b3 (.lst ([V.str "", V.str "frame", V.str "0a", V.str "Ab", V.str "aB", V.str "a b", V.str "a_b", V.str "a-", V.str "abcdefghijklm", V.str "frame "] ++ [V.str "frames", V.str "abcdefghijkl"]))) b3 = some (.lst W12) := upd_same
      obtain ⟨_, hsa⟩ := sr2.at_
      have nb3a : b3 ≠ a := (ne_of_none ((sb.trans sb2) _ _ hsa) nb3).symm
      refine ⟨_, rfl, a, c, 12, rfl, sr3, by decide, by decide, fun t3 H3 t30 t31 kp3 sr4 => ?_⟩
      obtain ⟨x, hxm, hxe⟩ := atV_mem (l := W12) t30 t31
      obtain ⟨w2, rfl, h1, h2⟩ := w12_at hxm
      exact ⟨b3, W12, t3, _, rfl, rfl, sql_of (kp3 _ _ hb3 nb3a), hxe, w2, _, rfl, h1, h2, (kp12.trans (Kp.same ss)).trans kp3, sr4⟩
    rintro σ' H2 ⟨w2, x4, rfl, hw, hwl, kp2, sr2⟩
    have fr : ∀ {G : Hp} {q : Addr}, Kp a H G → Src G a c → G q = none → H q = none := fun kp sr h => Src.free kp sr h
    have hcase : lab = Str.ofString "part" ∨ lab = Str.ofString "turn" ∨ lab = Str.ofString "measure" := by
      simp only [List.mem_cons, List.not_mem_nil, or_false] at hlab
      rcases hlab with rfl | rfl | rfl
      · exact .inr (.inr rfl)
      · exact .inr (.inl rfl)
      · exact .inl rfl
    rcases hcase with rfl | rfl | rfl
    · refine ⟨_, rfl, rfl, _, rfl, iteT' (by decide) ?_⟩
      refine ⟨_, rfl, (by show 2 ≤ sizeLine; decide), fun q nq => ?_⟩
      have sq := same_upd (o := .tup [V.str "part", V.str w2]) nq
      exact k q _ (.pa w2) (fr kp2 sr2 nq) (kp2.trans (Kp.same sq)) (sr2.of_same sq) ⟨q, _, rfl, upd_same, rfl⟩ rfl hw hw hwl
    · refine ⟨_, rfl, rfl, _, rfl, iteF' (by decide) ?_⟩
      refine ⟨_, rfl, rfl, _, rfl, iteT' (by decide) ?_⟩
      refine ⟨_, rfl, _, rfl, a, c, 11, rfl, sr2, by decide, by decide, fun t3 H3 t30 t31 kp3 sr3 => ⟨_, _, rfl, rfl, fun r er => ⟨(by show 3 ≤ sizeLine; decide), fun q nq => ?_⟩⟩⟩
      have sq := same_upd (o := .tup [V.str "turn", V.str w2, V.int r]) nq
      have kp23 := kp2.trans kp3
      exact k q _ (.tu w2 r) (fr kp23 sr3 nq) (kp23.trans (Kp.same sq)) (sr3.of_same sq) ⟨q, _, rfl, upd_same, rfl⟩ rfl ⟨hw, by omega⟩ hw hwl
    · refine ⟨_, rfl, rfl, _, rfl, iteF' (by decide) ?_⟩
      refine ⟨_, rfl, rfl, _, rfl, iteF' (by decide) ?_⟩
      refine ⟨_, rfl, a, c, rfl, sr2, fun lo H3 blo kp3 sr3 => ?_⟩
      have kp23 := kp2.trans kp3
      refine ⟨fun σ' H' => ∃ hi : Int, σ' = [some (.ref a), some (.str (Str.ofString "measure")), some (.ref nl), some (.str w2), x4, some (.int lo), some (.int hi)] ∧ hi.natAbs < 2 ^ 200 ∧ Kp a H H' ∧ Src H' a c, ?_, ?_⟩
      · refine ⟨_, rfl, a, c, 4, rfl, sr3, by decide, by decide, fun t4 H4 _ _ kp4 sr4 => ?_⟩
        refine ⟨rfl, _, rfl, ite2 (fun _ => ?_) (fun _ => ?_)⟩
        · exact ⟨_, rfl, lo, rfl, blo, kp23.trans kp4, sr4⟩
        · exact ⟨_, rfl, a, c, rfl, sr4, fun hi H5 bhi kp5 sr5 => ⟨hi, rfl, bhi, (kp23.trans kp4).trans kp5, sr5⟩⟩
      rintro σ' H4 ⟨hi, rfl, bhi, kp4, sr4⟩
      have last : ∀ (H5 : Hp) (l1 h1 : Int), l1.natAbs < 2 ^ 200 → h1.natAbs < 2 ^ 200 → Kp a H H5 → Src H5 a c → ∀ q, H5 q = none → Q (.ref q) (upd H5 q (.tup [V.str "measure", V.str w2, V.int l1, V.int h1])) := fun H5 l1 h1 b1 b2 kp5 sr5 q nq => by
        have sq := same_upd (o := .tup [V.str "measure", V.str w2, V.int l1, V.int h1]) nq
        exact k q _ (.me w2 l1 h1) (fr kp5 sr5 nq) (kp5.trans (Kp.same sq)) (sr5.of_same sq) ⟨q, _, rfl, upd_same, rfl⟩ rfl ⟨hw, by omega, by omega⟩ hw hwl
      refine ⟨_, rfl, a, c, 6, rfl, sr4, by decide, by decide, fun t5 H5 _ _ kp5 sr5 => ?_⟩
      have kp45 := kp4.trans kp5
      refine ⟨_, _, rfl, rfl, _, rfl, ite2 (fun _ => ?_) (fun _ => ?_)⟩
      · refine ⟨_, rfl, _, rfl, _, _, rfl, rfl, _, rfl, ite2 (fun _ => ?_) (fun _ => ?_)⟩
        · exact ⟨_, rfl, _, rfl, _, rfl, (by show 4 ≤ sizeLine; decide), fun q nq => last H5 hi lo bhi blo kp45 sr5 q nq⟩
        · exact ⟨_, rfl, _, rfl, _, rfl, (by show 4 ≤ sizeLine; decide), fun q nq => last H5 lo hi blo bhi kp45 sr5 q nq⟩
      · exact ⟨_, rfl, _, rfl, _, rfl, (by show 4 ≤ sizeLine; decide), fun q nq => last H5 lo hi blo bhi kp45 sr5 q nq⟩
abbrev sNen : Stmt := top 59
theorem scNen : FnScope ["_law_source_here", "_law_ends", "_law_shape", "_law_floor"] ["_law_source_here", "_law_ends"] (defScope sNen) := ⟨rfl, rfl, rfl, by decide +kernel, rfl, by decide +kernel, by decide +kernel⟩
def spNen : Sp := fun vs H Q _ => ∃ (a c t : Addr) (lo hi : Int), vs = [.ref a, .ref t] ∧ Src H a c ∧ H t = some (.tup [.int lo, .int hi]) ∧ lo ≤ hi ∧ lo.natAbs < 2 ^ 201 ∧ hi.natAbs < 2 ^ 201 ∧ ∀ q l2 h2 H', l2 ≤ h2 → l2.natAbs < 2 ^ 202 → h2.natAbs < 2 ^ 202 → H' q = some (.tup [.int l2, .int h2]) → Kp a H H' → Src H' a c → Q (.ref q) H'
theorem ok_nen (D : Df K mg "_law_near_ends" sNen ["_law_source_here", "_law_ends"]) (TT : Fk P w K mg base 2 "_law_take" sTake ["_law_source_here", "_law_many"] spTake) (NU : Fk P w K mg base 3 "_law_number" sNumber ["_law_source_here"] spNumber) (ma : mg "abs" = none) : FnOk P w K mg base CX0 4 D.f D.fd ["_law_source_here", "_law_ends"] spNen := by
  refine D.fn.ok scNen (fun vs H Q E h => ?_) (fun cdv A outer s H vs Q E hr h => ?_)
  · obtain ⟨a, c, t, lo, hi, rfl, _⟩ := h
    rfl
  · obtain ⟨a, c, t, lo, hi, rfl, sr, ht, hle, blo, bhi, k⟩ := h
    refine ⟨_, (pss_cons (ps_set (i := 2) scNen.nd rfl (.inl rfl) (pe_call TT.G (hr.mono (by decide)) (by rfl) TT.D.mgf TT.D.fn.kp TT.D.bd .nil pass0 (pa_cons (pv 0) (pa_cons pe_int pa_nil))))
      (pss_cons (ps_set (i := 3) scNen.nd rfl (.inl rfl) (pe_call NU.G (hr.mono (by decide)) (by rfl) NU.D.mgf NU.D.fn.kp NU.D.bd .nil pass0 (pa_cons (pv 0) pa_nil)))
      (pss_cons (ps_if (PW.pt (pw_and (pt_cmpR op_eq (pv 2) pe_int (nomark _)) (pw_and1 (pt_cmpR op_lt (pe_callB call_absL (by rfl) ma (by decide +kernel) (pa_cons (pe_ix (show IxR _ (rIxT K) from ix_tup) (pv 1) pe_int (fun _ _ => rfl)) pa_nil)) (pe_op op_powL pe_int pe_int) (nomark _)))))
      (pss_one (ps_ret (pe_tup (pa_cons (pe_op op_subL (pe_ix (show IxR _ (rIxT K) from ix_tup) (pv 1) pe_int (fun _ _ => rfl)) pe_int) (pa_cons (pe_ix (show IxR _ (rIxT K) from ix_tup) (pv 1) pe_int (fun _ _ => rfl)) pa_nil)))))
      pss_nil)
      (pss_cons (ps_if (PW.pt (pw_and (pt_cmpR op_eq (pv 2) pe_int (nomark _)) (pw_and1 (pt_cmpR op_lt (pe_callB call_absL (by rfl) ma (by decide +kernel) (pa_cons (pe_ix (show IxR _ (rIxT K) from ix_tup) (pv 1) pe_int (fun _ _ => rfl)) pa_nil)) (pe_op op_powL pe_int pe_int) (nomark _)))))
      (pss_one (ps_ret (pe_tup (pa_cons (pe_ix (show IxR _ (rIxT K) from ix_tup) (pv 1) pe_int (fun _ _ => rfl)) (pa_cons (pe_op op_addL (pe_ix (show IxR _ (rIxT K) from ix_tup) (pv 1) pe_int (fun _ _ => rfl)) pe_int) pa_nil)))))
      pss_nil)
      (pss_cons (ps_if (PW.pt (pw_and (pt_cmpR op_eq (pv 2) pe_int (nomark _)) (pw_and1 (pt_cmpR op_lt (pe_ix (show IxR _ (rIxT K) from ix_tup) (pv 1) pe_int (fun _ _ => rfl)) (pe_ix (show IxR _ (rIxT K) from ix_tup) (pv 1) pe_int (fun _ _ => rfl)) (nomark _)))))
      (pss_one (ps_ret (pe_tup (pa_cons (pe_op op_addL (pe_ix (show IxR _ (rIxT K) from ix_tup) (pv 1) pe_int (fun _ _ => rfl)) pe_int) (pa_cons (pe_ix (show IxR _ (rIxT K) from ix_tup) (pv 1) pe_int (fun _ _ => rfl)) pa_nil)))))
      pss_nil)
      (pss_cons (ps_if (PW.pt (pw_and (pt_cmpR op_eq (pv 2) pe_int (nomark _)) (pw_and1 (pt_cmpR op_lt (pe_ix (show IxR _ (rIxT K) from ix_tup) (pv 1) pe_int (fun _ _ => rfl)) (pe_ix (show IxR _ (rIxT K) from ix_tup) (pv 1) pe_int (fun _ _ => rfl)) (nomark _)))))
      (pss_one (ps_ret (pe_tup (pa_cons (pe_ix (show IxR _ (rIxT K) from ix_tup) (pv 1) pe_int (fun _ _ => rfl)) (pa_cons (pe_op op_subL (pe_ix (show IxR _ (rIxT K) from ix_tup) (pv 1) pe_int (fun _ _ => rfl)) pe_int) pa_nil)))))
      pss_nil)
      (pss_one (ps_ret (pe_tup (pa_cons (pv 3) (pa_cons (pe_ifExp (pt_cmpR op_lt (pe_callB call_absL (by rfl) ma (by decide +kernel) (pa_cons (pv 3) pa_nil)) (pe_op op_powL pe_int pe_int) (nomark _)) (pe_op op_addL (pv 3) (pe_call TT.G (hr.mono (by decide)) (by rfl) TT.D.mgf TT.D.fn.kp TT.D.bd .nil pass0 (pa_cons (pv 0) (pa_cons pe_int pa_nil)))) (pv 3)) pa_nil))))))))))), ?_⟩
    refine ⟨_, rfl, a, c, 5, rfl, sr, by decide, by decide, fun sh H1 _ _ kp1 sr1 => ?_⟩
    refine ⟨_, rfl, a, c, rfl, sr1, fun fl H2 bfl kp2 sr2 => ?_⟩
    obtain ⟨_, hsa⟩ := sr.at_
    have kp12 := kp1.trans kp2
    have ht2 := kp12 _ _ ht (ne_of ht hsa fun z => nomatch z)
    have last : ∀ (l2 h2 : Int), l2 ≤ h2 → l2.natAbs < 2 ^ 202 → h2.natAbs < 2 ^ 202 → ∀ H3, Kp a H2 H3 → Src H3 a c → ∀ q, H3 q = none → Q (.ref q) (upd H3 q (.tup [V.int l2, V.int h2])) := fun l2 h2 hl b1 b2 H3 kp3 sr3 q nq => by
      have sq := same_upd (o := .tup [V.int l2, V.int h2]) nq
      exact k q l2 h2 _ hl b1 b2 upd_same ((kp12.trans kp3).trans (Kp.same sq)) (sr3.of_same sq)
    have fin : _ := last
    refine ⟨_, rfl, rfl, _, rfl, ite2 (fun _ => ⟨_, rfl, t, _, 0, .int lo, rfl, rfl, sql_ofT ht2, rfl, _, rfl, fun r0 z1 z2 => ⟨10, 50, rfl, rfl, ⟨by decide, by decide, by decide⟩, fun b eb => ⟨_, _, rfl, rfl, _, rfl, ite2 (fun _ => ?_) (fun _ => ?_)⟩⟩⟩) (fun _ => ?_)⟩
    · exact ⟨_, rfl, t, _, 0, .int lo, rfl, rfl, sql_ofT ht2, rfl, _, _, rfl, rfl, fun r er => ⟨_, rfl, t, _, 1, .int hi, rfl, rfl, sql_ofT ht2, rfl, (by show 2 ≤ sizeLine; decide), fun q nq => last r hi (by omega) (by omega) (by omega) H2 Kp.refl sr2 q nq⟩⟩
    all_goals
      refine ⟨_, rfl, rfl, _, rfl, ite2 (fun _ => ⟨_, rfl, t, _, 1, .int hi, rfl, rfl, sql_ofT ht2, rfl, _, rfl, fun r0' z1' z2' => ⟨10, 50, rfl, rfl, ⟨by decide, by decide, by decide⟩, fun b' eb' => ⟨_, _, rfl, rfl, _, rfl, ite2 (fun _ => ?_) (fun _ => ?_)⟩⟩⟩) (fun _ => ?_)⟩
      · exact ⟨_, rfl, t, _, 0, .int lo, rfl, rfl, sql_ofT ht2, rfl, _, rfl, t, _, 1, .int hi, rfl, rfl, sql_ofT ht2, rfl, _, _, rfl, rfl, fun r er => ⟨(by show 2 ≤ sizeLine; decide), fun q nq => last lo r (by omega) (by omega) (by omega) H2 Kp.refl sr2 q nq⟩⟩
      all_goals
        refine ⟨_, rfl, rfl, _, rfl, ite2 (fun _ => ⟨_, rfl, t, _, 0, .int lo, rfl, rfl, sql_ofT ht2, rfl, _, rfl, t, _, 1, .int hi, rfl, rfl, sql_ofT ht2, rfl, _, _, rfl, rfl, _, rfl, ite2 (fun c5 => ?_) (fun _ => ?_)⟩) (fun _ => ?_)⟩
        · have c6 : lo < hi := of_decide_eq_true c5
          exact ⟨_, rfl, t, _, 0, .int lo, rfl, rfl, sql_ofT ht2, rfl, _, _, rfl, rfl, fun r er => ⟨_, rfl, t, _, 1, .int hi, rfl, rfl, sql_ofT ht2, rfl, (by show 2 ≤ sizeLine; decide), fun q nq => last r hi (by omega) (by omega) (by omega) H2 Kp.refl sr2 q nq⟩⟩
        all_goals
          refine ⟨_, rfl, rfl, _, rfl, ite2 (fun _ => ⟨_, rfl, t, _, 0, .int lo, rfl, rfl, sql_ofT ht2, rfl, _, rfl, t, _, 1, .int hi, rfl, rfl, sql_ofT ht2, rfl, _, _, rfl, rfl, _, rfl, ite2 (fun c5 => ?_) (fun _ => ?_)⟩) (fun _ => ?_)⟩
          · have c6 : lo < hi := of_decide_eq_true c5
            exact ⟨_, rfl, t, _, 0, .int lo, rfl, rfl, sql_ofT ht2, rfl, _, rfl, t, _, 1, .int hi, rfl, rfl, sql_ofT ht2, rfl, _, _, rfl, rfl, fun r er => ⟨(by show 2 ≤ sizeLine; decide), fun q nq => last lo r (by omega) (by omega) (by omega) H2 Kp.refl sr2 q nq⟩⟩
          all_goals
            refine ⟨_, rfl, _, rfl, _, rfl, fun r1 y1 y2 => ⟨10, 50, rfl, rfl, ⟨by decide, by decide, by decide⟩, fun b2 eb2 => ⟨_, _, rfl, rfl, _, rfl, ite2 (fun _ => ?_) (fun _ => ?_)⟩⟩⟩
            · exact ⟨_, rfl, _, rfl, a, c, 5, rfl, sr2, by decide, by decide, fun d H3 d0 _ kp3 sr3 => ⟨_, _, rfl, rfl, fun r er => ⟨(by show 2 ≤ sizeLine; decide), fun q nq => last fl r (by omega) (by omega) (by omega) H3 kp3 sr3 q nq⟩⟩⟩
            · exact ⟨_, rfl, (by show 2 ≤ sizeLine; decide), fun q nq => last fl fl (by omega) (by omega) (by omega) H2 Kp.refl sr2 q nq⟩
end
end DO

namespace DO
open PySem PySem.Spec PyProof.Rows L2
section
variable {P : Program} {w : World} {K : PySem.W.Frag} {mg : Str → Option Value} {base : Heap}
/-! ### a form drawn, and what the law writes of it -/
theorem pass0S {X : Cx} (σ : L2.St) : PassesAt CX0 X σ E0 := fun _ _ _ _ _ _ h => h.elim
theorem okS_len {z : Str} (h : okS z = true) : z.cps.toList.length ≤ 900 := by
  unfold okS okNm at h
  rw [Bool.and_eq_true] at h
  generalize z.cps.toList = ds at h
  cases ds with
  | nil => exact Nat.zero_le _
  | cons c r =>
    have h1 := h.1
    rw [isNm_cons, Bool.and_eq_true, Bool.and_eq_true] at h1
    have := of_decide_eq_true h1.1.1
    omega
/-- what holds of the terms that are drawn -/
structure TbOk (M : List Tm) : Prop where
  nd : (nms M).Nodup
  t : ∀ x ∈ M, x.k ≠ 0 ∧ x.k.natAbs ≤ 3 ∧ x.lo ≤ x.hi ∧ x.lo.natAbs < 2 ^ 202 ∧ x.hi.natAbs < 2 ^ 202 ∧ okS x.nm = true ∧ PyData.strOk x.nm = true ∧ x.nm.cps.toList.length ≤ 900
  sz : M.length ≤ 40
theorem TbOk.nil : TbOk [] := ⟨List.nodup_nil, fun x hx => by simp at hx, Nat.zero_le _⟩
theorem addF_self : ∀ {l : List Tm}, (nms l).Nodup → addF l = l := fun {l} => by
  have key : ∀ (r M : List Tm), (nms (M ++ r)).Nodup → r.foldl addP M = M ++ r := fun r => by
    induction r with
    | nil => intro M _; simp
    | cons x r ih =>
      intro M hn
      have hx : ¬ x.nm ∈ nms M := fun hm => by
        unfold nms at hn hm
        rw [List.map_append, List.nodup_append] at hn
        exact hn.2.2 _ hm _ (by rw [List.map_cons]; exact List.mem_cons_self) rfl
      have e : addP M x = M ++ [x] := by
        unfold addP
        have h0 : kOf M x.nm = 0 := kOf_none (getT_none.mpr hx)
        rw [h0]
        have hz : (⟨x.nm, 0 + x.k, x.lo, x.hi⟩ : Tm) = x := by
          cases x
          simp
        rw [hz]
        unfold putT
        rw [if_neg fun z => hx (anyT.mp z)]
      rw [List.foldl_cons, e, ih (M ++ [x]) (by rw [List.append_assoc]; exact hn), List.append_assoc]
      rfl
  intro h
  exact key l [] h
theorem nms_app (a b : List Tm) : nms (a ++ b) = nms a ++ nms b := List.map_append
theorem add_one {A : List Tm} {x : Tm} (hn : (nms (A ++ [x])).Nodup) (hk : ∀ y ∈ A ++ [x], y.k ≠ 0) : addS (srt A) [x] = srt (A ++ [x]) := by
  have hA : (nms A).Nodup := by
    rw [nms_app] at hn
    exact (List.nodup_append.mp hn).1
  have hx : x.nm ∉ nms A := fun hm => by
    rw [nms_app] at hn
    exact (List.nodup_append.mp hn).2.2 _ hm _ (List.mem_singleton.mpr rfl) rfl
  have hxs : x.nm ∉ nms (srt A) := fun hm => by
    obtain ⟨y, hy, e⟩ := List.mem_map.mp hm
    exact hx (List.mem_map.mpr ⟨y, (mem_srt hA).mp hy, e⟩)
  have hsn : (nms (srt A ++ [x])).Nodup := by
    rw [nms_app]
    exact nd_snocS (srt_up hA).nd hxs
  unfold addS
  rw [addF_self hsn]
  have e : srt (srt A ++ [x]) = srt (A ++ [x]) := srt_congr hsn hn fun w => by
    have g : ∀ (l : List Tm), getT (l ++ [x]) w = (getT l w).or (getT [x] w) := fun l => by unfold getT; rw [List.find?_append]
    rw [g, g, get_srt hA]
  rw [e]
  refine List.filter_eq_self.mpr fun y hy => ?_
  exact decide_eq_true (hk y ((mem_srt hn).mp hy))
theorem unl_one {A : List Tm} {x : Tm} (h : x.nm ∉ nms A) : unl A [x] = none := by
  unfold unl
  have : getT A x.nm = none := getT_none.mpr h
  simp [this]
theorem mul_one_t {w : Str} {k lo hi : Int} (h : k ≠ 0) : mulT k [⟨w, 1, lo, hi⟩] = [⟨w, k, lo, hi⟩] := by
  unfold mulT
  rw [if_neg h]
  simp
theorem DGet.fz {H : Hp} {a : Addr} {kvs : List (Key × V)} {k : Key} {od : Obj} (e : H a = some (.frz od (.dK kvs))) : DGet H a (kV k) (valV kvs k) := .inl ⟨kvs, k, .inr ⟨od, e⟩, rfl, rfl⟩
def K6 : List V := [.int (-3), .int (-2), .int (-1), .int 1, .int 2, .int 3]
theorem k6_at {x : V} (h : x ∈ K6) : ∃ k : Int, x = .int k ∧ k ≠ 0 ∧ k.natAbs ≤ 3 := by
  unfold K6 at h
  simp only [List.mem_cons, List.not_mem_nil, or_false] at h
  rcases h with rfl | rfl | rfl | rfl | rfl | rfl
  all_goals exact ⟨_, rfl, by decide, by decide⟩
theorem tb_put {M : List Tm} {x : Tm} (h : TbOk M) (hx : x.k ≠ 0 ∧ x.k.natAbs ≤ 3 ∧ x.lo ≤ x.hi ∧ x.lo.natAbs < 2 ^ 202 ∧ x.hi.natAbs < 2 ^ 202 ∧ okS x.nm = true ∧ PyData.strOk x.nm = true ∧ x.nm.cps.toList.length ≤ 900) (hz : M.length ≤ 39) : TbOk (putT M x) :=
  ⟨putT_nd h.nd, fun y hy => (putT_mem hy).elim (h.t y) fun e => by rw [e]; exact hx, by have := @putT_len M x; omega⟩
theorem Kt.k2 {H H' : Hp} {a d : Addr} {xs : List V} {o : HO} (k : ∀ b u, H b = some u → b ≠ a → b ≠ d → H' b = some u) (ha : H a = some (.lst xs)) (hd : H d = some o) (ho : ¬ Fx o) : Kt H H' := fun b u e f => k b u e (fun z => by subst z; rw [ha] at e; cases e; exact f.elim) (fun z => by subst z; rw [hd] at e; cases e; exact ho f)
theorem Kt.over {H : Hp} {d : Addr} {o o' : HO} (hd : H d = some o) (ho : ¬ Fx o) : Kt H (L2.upd H d o') := fun b u e f => by
  by_cases z : b = d
  · subst z
    rw [hd] at e
    cases e
    exact absurd f ho
  · rw [upd_ne z]
    exact e
/-- the operators of Form that the law uses -/
structure FoK (P : Program) (w : World) (K : PySem.W.Frag) (mg : Str → Option Value) (base : Heap) (C CU : Addr) where
  T : Frm K mg C
  TM : FrmM K C
  MI : Mf K C "__init__" "Form.__init__" sIni ["self", "constant"]
  MK : Mk K C MI.f
  MA : Mf K C "__add__" "Form.__add__" sAdd ["self", "other"]
  GA : FnOk P w K mg base (L2N.CX P w) 5 MA.f MA.fd ["self", "other"] (spAdd K C CU)
  MM : Mf K C "__mul__" "Form.__mul__" sMul ["self", "other"]
  MR : Mf K C "__rmul__" "Form.__rmul__" sRmu ["self", "other"]
  GR : FnOk P w K mg base CX0 5 MR.f MR.fd ["self", "other"] (spMul C)
abbrev sFdr : Stmt := top 60
theorem scFdr : FnScope ["_law_source_here", "_law_model", "_law_names_here", "_law_mine", "_law_act_here", "_law_number_here", "_law_table", "_law_k", "_law_word_here", "_law_ends", "_law_made", "_law_key"] ["_law_source_here", "_law_model", "_law_names_here"] (defScope sFdr) := ⟨rfl, rfl, rfl, by decide +kernel, rfl, by decide +kernel, by decide +kernel⟩
def spFdr (C : Addr) : Sp := fun vs H Q _ => ∃ (a c m nl : Addr) (as : List Ac) (ns : List (List Nat)), vs = [.ref a, .ref m, .ref nl] ∧ Src H a c ∧ m ≠ a ∧ nl ≠ a ∧ ActsM H m as ∧ GoodC as ∧ (∀ x ∈ as, AcOk x) ∧ H nl = some (.lst (NmL ns)) ∧ 0 < ns.length ∧ ns.length ≤ 900 ∧ (∀ ds ∈ ns, Nm ds) ∧
  ∀ tt x mf n ts H', H' tt = some (.tup [x, .ref mf]) → Opd C H' x n ts → ModF H' mf n ts → NmsOk ts → ts.length ≤ 900 → Kp a H H' → Src H' a c → Q (.ref tt) H'
theorem ok_fdr {C CB CE CU : Addr} (D : Df K mg "_law_form_draw" sFdr ["_law_source_here", "_law_model", "_law_names_here"]) (TT : Fk P w K mg base 2 "_law_take" sTake ["_law_source_here", "_law_many"] spTake) (NU : Fk P w K mg base 3 "_law_number" sNumber ["_law_source_here"] spNumber) (AN : Fk P w K mg base 3 "_law_any" sAny ["_law_source_here", "_law_first", "_law_second"] spAny) (LE : Fk P w K mg base 1 "_law_ends_of" sLeo ["_law_model", "_law_word_here"] spLeo) (NE : Fk P w K mg base 4 "_law_near_ends" sNen ["_law_source_here", "_law_ends"] spNen) (MS : Msr P w K mg base C CB CE) (O : FoK P w K mg base C CU) (mr : mg "range" = none) (mso : mg "sorted" = none) (mst : mg "str" = none) (mtu : mg "tuple" = none) :
    FnOk P w K mg base CX0 7 D.f D.fd ["_law_source_here", "_law_model", "_law_names_here"] (spFdr C) := by
  have GI : FnOk P w K mg base CX0 1 O.MI.f O.MI.fd ["self", "constant"] (spIni C) := ok_ini O.T O.MI
  refine D.fn.ok scFdr (fun vs H Q E h => ?_) (fun cdv A outer s0 H vs Q E hr h => ?_)
  · obtain ⟨a, c, m, nl, as, ns, rfl, _⟩ := h
    rfl
  · obtain ⟨a, c, m, nl, as, ns, rfl, sr, nma, nna, hM, hg, hao, hnl, hn0, hn1, hnm, k⟩ := h
    have hu := hu_of hr
    have hu2 : (A.deeper (envOfC "_law_form_draw" (defScope sFdr) s0.heap.objs.size D.f cdv)).units + 2 < cLine := Nat.lt_of_le_of_lt (Nat.add_le_add_left (by decide : 2 ≤ 64) _) hr.units
    refine ⟨_, (pss_cons (ps_setLc (i := 3) (own := [("_law_act_here", 4)]) (g := gName 4) (tt := _) rfl scFdr.nd rfl rfl (sw_true rfl rfl rfl (by decide +kernel)) (pi_list (pv 1)) (blkOk_by (N := ["_law_source_here", "_law_model", "_law_names_here", "_law_mine", "_law_act_here", "_law_number_here", "_law_table", "_law_k", "_law_word_here", "_law_ends", "_law_made", "_law_key"]) (sc := defScope sFdr) (by decide +kernel)) (fun _ _ _ _ _ => pg_name (i := 4) scFdr.nd rfl (Or.inl rfl)) (fun _ _ _ _ _ => pts_one (pt_cmpR op_eq (pe_ix (show IxR _ (rIxT K) from ix_tup) (pv 4) pe_int (fun _ _ => rfl)) pe_str (nomark _))) (fun _ _ _ _ _ => (pe_ix (show IxR _ (rIxT K) from ix_tup) (pv 4) pe_int (fun _ _ => rfl))))
      (pss_cons (ps_set (i := 5) scFdr.nd rfl (.inl rfl) (pe_call NU.G (hr.mono (by decide)) (by rfl) NU.D.mgf NU.D.fn.kp NU.D.bd .nil pass0 (pa_cons (pv 0) pa_nil)))
      (pss_cons (ps_if (pt_cmpR op_eq (pe_call TT.G (hr.mono (by decide)) (by rfl) TT.D.mgf TT.D.fn.kp TT.D.bd .nil pass0 (pa_cons (pv 0) (pa_cons pe_int pa_nil))) pe_int (nomark _))
      (pss_one (ps_ret (pe_tup (pa_cons (pv 5) (pa_cons (pe_tup (pa_cons (pv 5) (pa_cons (pe_tup pa_nil) pa_nil))) pa_nil)))))
      pss_nil)
      (pss_cons (ps_set (i := 6) scFdr.nd rfl (.inr rfl) pe_dnewK)
      (pss_cons (ps_for PassesOwn.never rfl (pi_range1 rfl mr (pa_cons (pe_call TT.G (hr.mono (by decide)) (by rfl) TT.D.mgf TT.D.fn.kp TT.D.bd .nil pass0 (pa_cons (pv 0) (pa_cons pe_int pa_nil))) pa_nil)) (pg_name (i := 7) scFdr.nd rfl (Or.inl rfl))
      (pss_cons (ps_set (i := 8) scFdr.nd rfl (.inl rfl) (pe_call AN.G (hr.mono (by decide)) (by rfl) AN.D.mgf AN.D.fn.kp AN.D.bd .nil pass0 (pa_cons (pv 0) (pa_cons (pv 3) (pa_cons (pv 2) pa_nil)))))
      (pss_cons (ps_set (i := 9) scFdr.nd rfl (.inl rfl) (pe_call LE.G (hr.mono (by decide)) (by rfl) LE.D.mgf LE.D.fn.kp LE.D.bd .nil pass0 (pa_cons (pv 1) (pa_cons (pv 8) pa_nil))))
      (C8.pss_cut (ps_if (pt_cmp (pc_isN (pv 9)))
      (pss_one (ps_set (i := 9) scFdr.nd rfl (.inl rfl) (pe_call NE.G (hr.mono (by decide)) (by rfl) NE.D.mgf NE.D.fn.kp NE.D.bd .nil pass0 (pa_cons (pv 0) (pa_cons (pe_tup (pa_cons pe_int (pa_cons pe_int pa_nil))) pa_nil)))))
      (pss_one (ps_if (pt_cmpR op_eq (pe_call TT.G (hr.mono (by decide)) (by rfl) TT.D.mgf TT.D.fn.kp TT.D.bd .nil pass0 (pa_cons (pv 0) (pa_cons pe_int pa_nil))) pe_int (nomark _))
      (pss_one (ps_set (i := 9) scFdr.nd rfl (.inl rfl) (pe_call NE.G (hr.mono (by decide)) (by rfl) NE.D.mgf NE.D.fn.kp NE.D.bd .nil pass0 (pa_cons (pv 0) (pa_cons (pv 9) pa_nil)))))
      pss_nil)))
      (pss_one (ps_dput hu (pv 6) (pv 8) (pe_op (show OpR _ _ (rCatT K) from op_catT) (pe_tup (pa_cons (pe_ix ix_list (pe_lst (pa_cons (pe_un un_neg pe_int) (pa_cons (pe_un un_neg pe_int) (pa_cons (pe_un un_neg pe_int) (pa_cons pe_int (pa_cons pe_int (pa_cons pe_int pa_nil))))))) (pe_call TT.G (hr.mono (by decide)) (by rfl) TT.D.mgf TT.D.fn.kp TT.D.bd .nil pass0 (pa_cons (pv 0) (pa_cons pe_int pa_nil))) (fun _ _ => rfl)) pa_nil)) (pv 9)) rfl))))))
      (pss_cons (ps_set (i := 10) scFdr.nd rfl (.inl rfl) (pe_make O.MK GI (hr.mono (by decide)) rfl O.T.mgC O.MI.bd .nil pass0 (pa_cons (pv 5) pa_nil)))
      (pss_cons (ps_lock (ps_for PassesOwn.never rfl (pi_keys (pv 6)) (pg_name (i := 8) scFdr.nd rfl (Or.inl rfl))
      (pss_one (ps_set (i := 10) scFdr.nd rfl (.inl rfl) (pe_op (op_binO (op := .Add) rfl O.MA.me O.T.sf O.GA (hr.mono (by decide)) O.MA.bd passZ) (pv 10) (pe_opS (op_intOS_mul (E := fun _ => E0) O.MM.me O.MR.me O.T.sf O.TM.im O.TM.ir rfl O.T.sJ O.GR (hr.mono (by decide)) O.MR.bd pass0S) (pe_ix (show IxR _ (rIxT K) from ix_tup) (pe_dget hu (pv 6) (pv 8) (fun _ _ => rfl)) pe_int (fun _ _ => rfl)) (pe_callN MS.G (hr.mono (by decide)) (by rfl) MS.mgf MS.fn.kp MS.kb passZ (pa_cons (pv 8) pa_nil) (pk_cons (pe_ix (show IxR _ (rIxT K) from ix_tup) (pe_dget hu (pv 6) (pv 8) (fun _ _ => rfl)) pe_int (fun _ _ => rfl)) (pk_cons (pe_ix (show IxR _ (rIxT K) from ix_tup) (pe_dget hu (pv 6) (pv 8) (fun _ _ => rfl)) pe_int (fun _ _ => rfl)) pk_nil)))))))))
      (pss_one (ps_ret (pe_tup (pa_cons (pv 10) (pa_cons (pe_tup (pa_cons (pv 5) (pa_cons (pe_callTy call_tuple_of (by rfl) mtu (by decide +kernel) (pa_cons (pe_lc (own := [("_law_word_here", 8)]) (g := gName 8) (tt := tYes) rfl scFdr.nd (pi_list (pe_callB (cr_sortedT hu2) (by rfl) mso (by decide +kernel) (pa_cons (pe_lock (pe_lc (own := [("_law_key", 11)]) (g := gName 11) (tt := tYes) rfl scFdr.nd (pi_keys (pv 6)) (blkOk_by (N := ["_law_source_here", "_law_model", "_law_names_here", "_law_mine", "_law_act_here", "_law_number_here", "_law_table", "_law_k", "_law_word_here", "_law_ends", "_law_made", "_law_key"]) (sc := defScope sFdr) (by decide +kernel)) (fun _ _ _ _ _ => pg_name (i := 11) scFdr.nd rfl (Or.inl rfl)) (fun _ _ _ _ _ => pts_nil) (fun _ _ _ _ _ => (pe_callTy SkE.call_str_str (by rfl) mst (by decide +kernel) (pa_cons (pv 11) pa_nil))))) pa_nil))) (blkOk_by (N := ["_law_source_here", "_law_model", "_law_names_here", "_law_mine", "_law_act_here", "_law_number_here", "_law_table", "_law_k", "_law_word_here", "_law_ends", "_law_made", "_law_key"]) (sc := defScope sFdr) (by decide +kernel)) (fun _ _ _ _ _ => pg_name (i := 8) scFdr.nd rfl (Or.inl rfl)) (fun _ _ _ _ _ => pts_nil) (fun _ _ _ _ _ => (pe_op (show OpR _ _ (rCatT K) from op_catT) (pe_tup (pa_cons (pv 8) pa_nil)) (pe_dget hu (pv 6) (pv 8) (fun _ _ => rfl))))) pa_nil)) pa_nil))) pa_nil)))))))))))), ?_⟩
    obtain ⟨⟨ms, hm, hMA⟩, _⟩ := id hM
    have hml := hMA.len
    have hlen := hg.len
    refine ⟨_, rfl, m, rfl, ⟨_, sql_of hm⟩, fun Y nY => ?_⟩
    refine lc_pick walk_list as (fun x => (meP x).map (·.1)) (fun _ v (z : Str) => v = .str z) (fun _ _ _ _ _ z => z) nY (fun H2 s2 => sql_of (s2 _ _ hm)) hml (by omega) (fun i x d H2 Yes No hx hd s2 hYes hNo => ?_) (fun H1 zs hY hZ s1 => ?_)
    · obtain ⟨d', hd', hxd⟩ := hMA.at_ hx
      obtain rfl : d' = d := Option.some.inj (hd'.symm.trans hd)
      have hx2 := hxd.kt (.same s2)
      obtain ⟨t, ws, rfl, ht, _⟩ := hx2.lab
      refine ⟨rfl, _, rfl, t, _, 0, .str d'.lab, rfl, rfl, sql_ofT ht, at0, rfl, _, rfl, ite2 (fun e => ?_) (fun e => ?_)⟩
      · obtain ⟨w', lo, hi, rfl⟩ := lab_me e
        obtain ⟨t', xs', e', h1, rfl⟩ := hx2
        cases e'
        exact ⟨_, rfl, t, _, 1, .str w', rfl, rfl, sql_ofT h1, at1, hYes _ _ w' rfl (.refl _) rfl⟩
      · exact hNo _ (by rw [not_me e]; rfl) (.refl _)
    obtain rfl := strs_list (H := H1) hZ
    have mine : ∀ z ∈ as.filterMap (fun x => (meP x).map (·.1)), okS z = true ∧ PyData.strOk z = true ∧ z.cps.toList.length ≤ 900 := fun z hz => by
      obtain ⟨x, hx, e⟩ := List.mem_filterMap.mp hz
      cases x with
      | me w lo hi =>
        cases e
        have h1 := (hg.me _ _ _ hx).1
        exact ⟨h1, (hao _ hx).1, okS_len h1⟩
      | _ => cases e
    have sr1 := sr.of_same s1
    obtain ⟨_, hsa⟩ := sr.at_
    have nYa : Y ≠ a := (ne_of_none hsa nY).symm
    refine ⟨_, rfl, a, c, rfl, sr1, fun n0 H2 bn0 kp2 sr2 => ?_⟩
    have hY2 := kp2 _ _ hY nYa
    have kp02 : Kp a H H2 := (Kp.same s1).trans kp2
    refine ⟨_, rfl, a, c, 3, rfl, sr2, by decide, by decide, fun t1 H3 _ _ kp3 sr3 => ⟨rfl, _, rfl, ite2 (fun _ => ?_) (fun _ => ?_)⟩⟩
    · refine ⟨_, rfl, _, rfl, (by show 0 ≤ sizeLine; decide), fun z1 nz1 => ⟨(by show 2 ≤ sizeLine; decide), fun z2 nz2 => ⟨(by show 2 ≤ sizeLine; decide), fun z3 nz3 => ?_⟩⟩⟩
      have q1 := same_upd (o := .tup []) nz1
      have q2 := same_upd (o := .tup [V.int n0, V.ref z1]) nz2
      have q3 := same_upd (o := .tup [V.int n0, V.ref z2]) nz3
      have q13 := (q1.trans q2).trans q3
      exact k z3 (.int n0) z2 n0 [] _ upd_same (.num n0) ⟨z1, [], q3 _ _ upd_same, (q2.trans q3) _ _ upd_same, .nil⟩ (fun x hx => by simp at hx) (Nat.zero_le _) ((kp02.trans kp3).trans (Kp.same q13)) (sr3.of_same q13)
    intro TD nTD
    have sTD := same_upd (o := .dK []) nTD
    have hTD : (upd H3 TD (.dK [])) TD = some (.dK []) := upd_same
    have kp03 := kp02.trans kp3
    have hY3 := sTD _ _ (kp3 _ _ hY2 nYa)
    have sr4 := sr3.of_same sTD
    obtain ⟨_, hsa3⟩ := sr3.at_
    have nTa : TD ≠ a := (ne_of_none hsa3 nTD).symm
    have hm3 : ActsM (upd H3 TD (.dK [])) m as := (hM.kp kp03 hsa nma).same sTD
    have hnl3 := sTD _ _ (kp03 _ _ hnl nna)
    have kp04 := kp03.trans (Kp.same sTD)
    have hTDn : H TD = none := Src.free kp03 sr3 nTD
    have nTY : TD ≠ Y := (ne_of_none (kp3 _ _ hY2 nYa) nTD).symm
    have nTm : TD ≠ m := by
      obtain ⟨⟨ym, hym, _⟩, _⟩ := hM.kp kp03 hsa nma
      exact (ne_of_none hym nTD).symm
    have nTn : TD ≠ nl := (ne_of_none (kp03 _ _ hnl nna) nTD).symm
    generalize (upd H3 TD (.dK [])) = H4 at sTD hTD hY3 sr4 hm3 hnl3 kp04
    refine ⟨_, rfl, a, c, 4, rfl, sr4, by decide, by decide, fun mk H5 mk0 mk1 kp5 sr5 => ?_⟩
    obtain ⟨xsa, hsa4⟩ := sr4.at_
    refine ⟨mk, rfl, by omega, by omega, for_range (lo := 0) (n := mk.toNat) (fun i σ H6 => ∃ M kvs x7 x8 x9, σ = [some (.ref a), some (.ref m), some (.ref nl), some (.ref Y), none, some (.int n0), some (.ref TD), x7, x8, x9, none, none] ∧ H6 TD = some (.dK kvs) ∧ DAll H6 kvs M ∧ TbOk M ∧ M.length ≤ i ∧ (∀ b o, H4 b = some o → b ≠ a → b ≠ TD → H6 b = some o) ∧ Src H6 a c) ⟨[], [], none, none, none, rfl, kp5 _ _ hTD nTa, .nil, TbOk.nil, Nat.le_refl _, fun b o e n1 _ => kp5 b o e n1, sr5⟩ ?_ ?_⟩
    · rintro i σ H6 hi ⟨M, kvs, x7, x8, x9, rfl, hT6, hD6, hTb, hMl, k6, sr6⟩
      have hi4 : i < 4 := by omega
      have kt6 : Kt H4 H6 := Kt.k2 k6 hsa4 hTD (fun z => z)
      have hY6 := k6 _ _ hY3 nYa nTY.symm
      have hnl6 := k6 _ _ hnl3 nna nTn.symm
      have hmY : (as.filterMap (fun x => (meP x).map (·.1))).length ≤ as.length := List.length_filterMap_le _ _
      refine ⟨_, rfl, _, rfl, _, rfl, a, c, Y, nl, _, _, rfl, sr6, nYa, nna, hY6, hnl6, by rw [nml_len]; exact hn0, by rw [List.length_map]; omega, by rw [nml_len]; omega, fun x H7 hx kp7 sr7 => ?_⟩
      obtain ⟨w, rfl, hw1, hw2, hw3⟩ : ∃ w : Str, x = .str w ∧ okS w = true ∧ PyData.strOk w = true ∧ w.cps.toList.length ≤ 900 := by
        rcases hx with hx | hx
        · obtain ⟨w, hw, rfl⟩ := List.mem_map.mp hx
          exact ⟨w, rfl, mine w hw⟩
        · obtain ⟨ds, hd, rfl⟩ := nml_at hx
          have h := hnm ds hd
          refine ⟨tx ds, rfl, ?_, h.st, ?_⟩
          · unfold okS
            rw [tx_list]
            exact h.ok
          · rw [tx_list]
            exact Nat.le_trans h.len (by decide)
      have hT7 := kp7 _ _ hT6 nTa
      obtain ⟨xs6, hsa6⟩ := sr6.at_
      have kt67 := Kt.kp kp7 hsa6
      have k7 : ∀ b o, H4 b = some o → b ≠ a → b ≠ TD → H7 b = some o := fun b o e n1 n2 => kp7 _ _ (k6 b o e n1 n2) n1
      have hM7 : ActsM H7 m as := by
        obtain ⟨⟨ym, hym, hyA⟩, hz⟩ := hm3
        exact ⟨⟨ym, k7 _ _ hym nma nTm.symm, hyA.kt (Kt.k2 k7 hsa4 hTD (fun z => z))⟩, hz⟩
      have hD7 := hD6.mono kt67.tup
      have nac : c ≠ TD := by
        obtain ⟨a0, a1, nsx, _, _, hc, _⟩ := sr7
        exact ne_of hc hT7 fun z => nomatch z
      refine ⟨_, rfl, _, rfl, m, as, w, rfl, hM7, fun he => ?_, fun lo hi2 he q0 H8 s8 hq0 => ?_⟩
      · refine ⟨fun σ' H' => ∃ q l2 h2, σ' = [some (.ref a), some (.ref m), some (.ref nl), some (.ref Y), none, some (.int n0), some (.ref TD), some (.int (0 + (i : Int))), some (.str w), some (.ref q), none, none] ∧ H' q = some (.tup [.int l2, .int h2]) ∧ l2 ≤ h2 ∧ l2.natAbs < 2 ^ 202 ∧ h2.natAbs < 2 ^ 202 ∧ Kp a H7 H' ∧ Src H' a c, ?_, ?_⟩
        · refine ⟨_, rfl, _, rfl, iteT' rfl ?_⟩
          refine ⟨_, rfl, (by show 2 ≤ sizeLine; decide), fun t0 nt0 => ?_⟩
          have st := same_upd (o := .tup [V.int 0, V.int 0]) nt0
          exact ⟨a, c, t0, 0, 0, rfl, sr7.of_same st, upd_same, by decide, by decide, by decide, fun q l2 h2 H9 hl b1 b2 hq kp9 sr9 => ⟨q, l2, h2, rfl, hq, hl, b1, b2, (Kp.same st).trans kp9, sr9⟩⟩
        rintro σ' H9 ⟨q, l2, h2, rfl, hq9, hl, b1, b2, kp9, sr9⟩
        refine ⟨_, rfl, _, rfl, _, rfl, (by show 6 ≤ sizeLine; decide), fun l nl6 => ?_⟩
        have sl := same_upd (o := .lst K6) nl6
        obtain ⟨_, hsa9⟩ := sr9.at_
        have nla : l ≠ a := (ne_of_none hsa9 nl6).symm
        refine ⟨_, rfl, a, c, 6, rfl, sr9.of_same sl, by decide, by decide, fun t H10 t0 t1 kp10 sr10 => ?_⟩
        obtain ⟨x, hxm, hxe⟩ := atV_mem (l := K6) t0 t1
        obtain ⟨kk, rfl, hk0, hk3⟩ := k6_at hxm
        obtain ⟨xs7, hsa7⟩ := sr7.at_
        have kp710 : Kp a H7 H10 := (kp9.trans (Kp.same sl)).trans kp10
        have hq10 : H10 q = some (.tup [.int l2, .int h2]) := ((Kp.same sl).trans kp10) _ _ hq9 (ne_of hq9 hsa9 fun z => nomatch z)
        refine ⟨l, K6, t, _, rfl, rfl, sql_of (kp10 _ _ upd_same nla), hxe, (by show 1 ≤ sizeLine; decide), fun z nz => ?_⟩
        have sz := same_upd (o := .tup [V.int kk]) nz
        refine ⟨_, rfl, z, q, _, _, rfl, rfl, sql_ofT upd_same, sql_ofT (sz _ _ hq10), by simp, by show 1 + 2 ≤ sizeLine; decide, fun z => absurd z (by simp), fun _ pp npp => ?_⟩
        have sp := same_upd (o := .tup ([V.int kk] ++ [V.int l2, V.int h2])) npp
        have hpp : (upd (upd H10 z (.tup [V.int kk])) pp (.tup ([V.int kk] ++ [V.int l2, V.int h2]))) pp = some (.tup [V.int kk, V.int l2, V.int h2]) := upd_same
        have s1011 := sz.trans sp
        have sr11 := sr10.of_same s1011
        generalize (upd (upd H10 z (.tup [V.int kk])) pp (.tup ([V.int kk] ++ [V.int l2, V.int h2]))) = H11 at hpp s1011 sr11
        have kp711 := kp710.trans (Kp.same s1011)
        have hT11 := kp711 _ _ hT7 nTa
        have kt711 := Kt.kp kp711 hsa7
        have kt12 : Kt H11 (upd H11 TD (.dK (putK kvs (Sum.inr w) (.ref pp)))) := Kt.over hT11 (fun z => z)
        refine ⟨_, rfl, _, rfl, TD, _, rfl, DPut.k (k := Sum.inr w) hT11 (by rw [hD7.len]; exact small1000 (by omega)), ?_⟩
        refine ⟨putT M ⟨w, kk, l2, h2⟩, _, _, _, _, rfl, upd_same, ?_, tb_put hTb ⟨hk0, hk3, hl, b1, b2, hw1, hw2, hw3⟩ (by omega), ?_, fun b o e n1 n2 => ?_, sr11.of_upd nTa.symm nac⟩
        · exact ((hD7.mono kt711.tup).put (x := ⟨w, kk, l2, h2⟩) (t := pp) hpp).mono kt12.tup
        · have := @putT_len M ⟨w, kk, l2, h2⟩
          omega
        · rw [upd_ne n2]
          exact kp711 _ _ (k7 b o e n1 n2) n1
      · refine ⟨fun σ' H' => ∃ q l2 h2, σ' = [some (.ref a), some (.ref m), some (.ref nl), some (.ref Y), none, some (.int n0), some (.ref TD), some (.int (0 + (i : Int))), some (.str w), some (.ref q), none, none] ∧ H' q = some (.tup [.int l2, .int h2]) ∧ l2 ≤ h2 ∧ l2.natAbs < 2 ^ 202 ∧ h2.natAbs < 2 ^ 202 ∧ Kp a H7 H' ∧ Src H' a c, ?_, ?_⟩
        · have hmem := ends_mem he
          have hle := (hg.me _ _ _ hmem).2
          have hbd := hao _ hmem
          have sr8 := sr7.of_same s8
          refine ⟨_, rfl, _, rfl, iteF' rfl ?_⟩
          refine ⟨_, rfl, a, c, 5, rfl, sr8, by decide, by decide, fun t5 H9 _ _ kp9 sr9 => ⟨rfl, _, rfl, ite2 (fun _ => ?_) (fun _ => ?_)⟩⟩
          · obtain ⟨_, hsa8⟩ := sr8.at_
            have hq9 := kp9 _ _ hq0 (ne_of hq0 hsa8 fun z => nomatch z)
            exact ⟨_, rfl, _, rfl, a, c, q0, lo, hi2, rfl, sr9, hq9, hle, hbd.2.1, hbd.2.2, fun q l2 h2 H10 hl b1 b2 hq kp10 sr10 => ⟨q, l2, h2, rfl, hq, hl, b1, b2, ((Kp.same s8).trans kp9).trans kp10, sr10⟩⟩
          · obtain ⟨_, hsa8⟩ := sr8.at_
            have hq9 := kp9 _ _ hq0 (ne_of hq0 hsa8 fun z => nomatch z)
            have h1 := hbd.2.1
            have h2 := hbd.2.2
            exact ⟨q0, lo, hi2, rfl, hq9, hle, by omega, by omega, (Kp.same s8).trans kp9, sr9⟩
        rintro σ' H9 ⟨q, l2, h2, rfl, hq9, hl, b1, b2, kp9, sr9⟩
        refine ⟨_, rfl, _, rfl, _, rfl, (by show 6 ≤ sizeLine; decide), fun l nl6 => ?_⟩
        have sl := same_upd (o := .lst K6) nl6
        obtain ⟨_, hsa9⟩ := sr9.at_
        have nla : l ≠ a := (ne_of_none hsa9 nl6).symm
        refine ⟨_, rfl, a, c, 6, rfl, sr9.of_same sl, by decide, by decide, fun t H10 t0 t1 kp10 sr10 => ?_⟩
        obtain ⟨x, hxm, hxe⟩ := atV_mem (l := K6) t0 t1
        obtain ⟨kk, rfl, hk0, hk3⟩ := k6_at hxm
        obtain ⟨xs7, hsa7⟩ := sr7.at_
        have kp710 : Kp a H7 H10 := (kp9.trans (Kp.same sl)).trans kp10
        have hq10 : H10 q = some (.tup [.int l2, .int h2]) := ((Kp.same sl).trans kp10) _ _ hq9 (ne_of hq9 hsa9 fun z => nomatch z)
        refine ⟨l, K6, t, _, rfl, rfl, sql_of (kp10 _ _ upd_same nla), hxe, (by show 1 ≤ sizeLine; decide), fun z nz => ?_⟩
        have sz := same_upd (o := .tup [V.int kk]) nz
        refine ⟨_, rfl, z, q, _, _, rfl, rfl, sql_ofT upd_same, sql_ofT (sz _ _ hq10), by simp, by show 1 + 2 ≤ sizeLine; decide, fun z => absurd z (by simp), fun _ pp npp => ?_⟩
        have sp := same_upd (o := .tup ([V.int kk] ++ [V.int l2, V.int h2])) npp
        have hpp : (upd (upd H10 z (.tup [V.int kk])) pp (.tup ([V.int kk] ++ [V.int l2, V.int h2]))) pp = some (.tup [V.int kk, V.int l2, V.int h2]) := upd_same
        have s1011 := sz.trans sp
        have sr11 := sr10.of_same s1011
        generalize (upd (upd H10 z (.tup [V.int kk])) pp (.tup ([V.int kk] ++ [V.int l2, V.int h2]))) = H11 at hpp s1011 sr11
        have kp711 := kp710.trans (Kp.same s1011)
        have hT11 := kp711 _ _ hT7 nTa
        have kt711 := Kt.kp kp711 hsa7
        have kt12 : Kt H11 (upd H11 TD (.dK (putK kvs (Sum.inr w) (.ref pp)))) := Kt.over hT11 (fun z => z)
        refine ⟨_, rfl, _, rfl, TD, _, rfl, DPut.k (k := Sum.inr w) hT11 (by rw [hD7.len]; exact small1000 (by omega)), ?_⟩
        refine ⟨putT M ⟨w, kk, l2, h2⟩, _, _, _, _, rfl, upd_same, ?_, tb_put hTb ⟨hk0, hk3, hl, b1, b2, hw1, hw2, hw3⟩ (by omega), ?_, fun b o e n1 n2 => ?_, sr11.of_upd nTa.symm nac⟩
        · exact ((hD7.mono kt711.tup).put (x := ⟨w, kk, l2, h2⟩) (t := pp) hpp).mono kt12.tup
        · have := @putT_len M ⟨w, kk, l2, h2⟩
          omega
        · rw [upd_ne n2]
          exact kp711 _ _ (k7 b o e n1 n2) n1
    rintro σ H6 ⟨M, kvs, x7, x8, x9, rfl, hT6, hD6, hTb, hMl, k6, sr6⟩
    refine ⟨_, rfl, fun f0 df nf ndf hne => ⟨f0, df, n0, rfl, upd_same, fun t0 H7 nt0 hf0 ht0 kpm => ⟨rfl, ?_⟩⟩⟩
    have s7 := made_same nf ndf kpm
    have hF0 : FormAt C H7 f0 n0 [] := ⟨df, t0, [], hf0, ht0, .nil⟩
    have hT7 := s7 _ _ hT6
    have hD7 := hD6.mono (Kt.same s7).tup
    have sr7 := sr6.of_same s7
    refine ⟨TD, .dK kvs, hT7, trivial, fun od => ?_⟩
    have hfz : (upd H7 TD (.frz od (.dK kvs))) TD = some (.frz od (.dK kvs)) := upd_same
    have ktz : Kt H7 (upd H7 TD (.frz od (.dK kvs))) := Kt.over hT7 (fun z => z)
    have hDz := hD7.mono ktz.tup
    have hFz := hF0.kt ktz
    refine ⟨_, rfl, TD, od, rfl, .inl ⟨kvs, hfz, for_it walk_keys (fun i σ H8 => ∃ f x8', σ = [some (.ref a), some (.ref m), some (.ref nl), some (.ref Y), none, some (.int n0), some (.ref TD), x7, x8', x9, some (.ref f), none] ∧ FormAt C H8 f n0 (srt (M.take i)) ∧ Same (upd H7 TD (.frz od (.dK kvs))) H8) ⟨f0, x8, rfl, by rw [List.take_zero, srt_self (A := []) List.Pairwise.nil]; exact hFz, .refl _⟩ (fun i σ H8 _ ⟨_, _, _, _, z⟩ => z _ _ hfz) ?_ ?_⟩⟩
    · rintro i y σ H8 H8' hi ⟨f, x8', rfl, hf, s8⟩ ⟨rfl, kk, vv, hk, rfl⟩
      obtain ⟨x, t, hx, rfl, rfl, ht⟩ := hDz.at_ hk
      have hxm := List.mem_of_getElem? hx
      obtain ⟨x1, x2, x3, x4, x5, x6, x7', x8''⟩ := hTb.t x hxm
      have hxM : getT M x.nm = some x := getT_mem hTb.nd hxm
      have hD8 := hDz.mono (Kt.same s8).tup
      have hz8 := s8 _ _ hfz
      obtain ⟨e, _⟩ | ⟨x', t', e1, e2, e3⟩ := hD8.get x.nm
      · rw [e] at hxM
        cases hxM
      obtain rfl : x' = x := Option.some.inj (e1.symm.trans hxM)
      have dg : ∀ {H' : Hp}, Same H8' H' → DGet H' TD (.str x'.nm) (some (.ref t')) := fun s => by
        rw [← e2]
        exact DGet.fz (k := Sum.inr x'.nm) (s _ _ hz8)
      have tk : M.take (i + 1) = M.take i ++ [x'] := by rw [List.take_add_one, hx, Option.toList_some]
      have ndT : (nms (M.take i ++ [x'])).Nodup := by
        rw [← tk]
        exact List.Nodup.sublist ((List.take_sublist _ _).map _) hTb.nd
      have ndA : (nms (M.take i)).Nodup := by
        rw [nms_app] at ndT
        exact (List.nodup_append.mp ndT).1
      have nin : x'.nm ∉ nms (srt (M.take i)) := fun hm => by
        obtain ⟨y, hy, e⟩ := List.mem_map.mp hm
        rw [nms_app] at ndT
        exact (List.nodup_append.mp ndT).2.2 _ (List.mem_map.mpr ⟨y, (mem_srt ndA).mp hy, e⟩) _ (List.mem_singleton.mpr rfl) rfl
      have memS : ∀ y ∈ srt (M.take i), y ∈ M := fun y hy => List.mem_of_mem_take ((mem_srt ndA).mp hy)
      have szS : (srt (M.take i)).length ≤ 40 := by
        have h1 : (srt (M.take i)).length = (nms (srt (M.take i))).length := by unfold nms; rw [List.length_map]
        rw [h1, srt_nms, (sortS_perm _).length_eq]
        unfold nms
        rw [List.length_map, List.length_take]
        have := hTb.sz
        omega
      have tsA : TsOk (srt (M.take i)) := ⟨(srt_up ndA).nd, fun y hy => (hTb.t y (memS y hy)).2.2.2.2.2.2.1, by omega⟩
      refine ⟨_, rfl, _, rfl, _, rfl, TD, .ref t', rfl, dg (.refl _), t', _, 0, .int x'.k, rfl, rfl, sql_ofT e3, rfl, ?_⟩
      refine ⟨_, rfl, _, rfl, _, rfl, TD, .ref t', rfl, dg (.refl _), t', _, 1, .int x'.lo, rfl, rfl, sql_ofT e3, rfl, _, rfl, _, rfl, TD, .ref t', rfl, dg (.refl _), t', _, 2, .int x'.hi, rfl, rfl, sql_ofT e3, rfl, rfl, rfl, x'.nm.cps.toList, x'.lo, x'.hi, by rw [tx_cps]; rfl, x8'', fun z => ?_, fun _ z => by omega, fun _ _ r H9 nr s9 hr9 => ?_⟩
      · unfold okS at x6
        rw [x6] at z
        cases z
      rw [tx_cps] at hr9
      obtain ⟨dr, tr, ur, hr1, hr2, hr3⟩ := id hr9
      refine ⟨r, dr, _, x'.k, rfl, rfl, hr1, r, 0, x'.k, _, rfl, hr9, (by show 1 ≤ 900; decide), ⟨by decide, fun y hy => ?_⟩, Nat.lt_of_le_of_lt x2 (by decide +kernel), fun r2 H10 nr2 s10 hr10 => ?_⟩
      · rw [List.mem_singleton.mp hy]
        exact ⟨(by show (1 : Int).natAbs < 2 ^ 10000; decide +kernel), Nat.lt_of_lt_of_le x4 (by decide +kernel), Nat.lt_of_lt_of_le x5 (by decide +kernel)⟩
      rw [mul_one_t x1] at hr10
      obtain ⟨dr2, tr2, ur2, g1, g2, g3⟩ := id hr10
      have s810 := s9.trans s10
      have hf10 := hf.keep s810
      obtain ⟨df3, tf3, uf3, g4, g5, g6⟩ := id hf10
      refine ⟨f, df3, _, r2, dr2, _, rfl, rfl, g4, g1, f, n0, srt (M.take i), .ref r2, rfl, hf10, tsA, .inr ⟨r2, _, _, rfl, hr10, ⟨List.pairwise_singleton _ _, fun y hy => ?_, (by show 1 ≤ 400; decide)⟩, fun w z => ?_, fun _ r3 H11 nr3 s11 hr11 => ?_⟩⟩
      · rw [List.mem_singleton.mp hy]
        exact x7'
      · rw [unl_one (x := ⟨x'.nm, x'.k, x'.lo, x'.hi⟩) nin] at z
        cases z
      · refine ⟨r3, _, rfl, ?_, s8.trans (s810.trans s11)⟩
        have en : n0 + 0 * x'.k = n0 := by simp
        rw [en, show (⟨x'.nm, x'.k, x'.lo, x'.hi⟩ : Tm) = x' from rfl, add_one ndT (fun y hy => (hTb.t y (by rw [← tk] at hy; exact List.mem_of_mem_take hy)).1), ← tk] at hr11
        exact hr11
    rintro σ H8 ⟨f, x8', rfl, hf, s8⟩
    rw [List.take_of_length_le (by rw [hD6.len]; exact Nat.le_refl _)] at hf
    refine ⟨s8 _ _ hfz, ?_⟩
    have hz8 := s8 _ _ hfz
    have kt9 : Kt H8 (upd H8 TD (.dK kvs)) := Kt.over hz8 (fun z => z)
    have hf9 := hf.kt kt9
    have hT9 : (upd H8 TD (.dK kvs)) TD = some (.dK kvs) := upd_same
    have hD9 := (hDz.mono (Kt.same s8).tup).mono kt9.tup
    have s79 : Same H7 (upd H8 TD (.dK kvs)) := fun b o e => by
      by_cases z : b = TD
      · subst z
        rw [hT7] at e
        cases e
        exact upd_same
      · rw [upd_ne z]
        exact s8 _ _ (by rw [upd_ne z]; exact e)
    have sr9 := sr7.of_same s79
    have kpF : Kp a H (upd H8 TD (.dK kvs)) := fun b o e n1 => (s7.trans s79) _ _ (k6 b o (kp04 b o e n1) n1 (ne_of_none e hTDn))
    generalize (upd H8 TD (.dK kvs)) = H9 at hf9 hT9 hD9 sr9 kpF
    have hKN : kvs.map (fun kv => kV kv.1) = (nms M).map V.str := keys_of hD9
    have hKL2 : kvs.length = M.length := hD9.len
    have hTsz := hTb.sz
    refine ⟨_, rfl, _, rfl, ?_⟩
    refine ⟨TD, .dK kvs, hT9, trivial, fun od => ?_⟩
    have hfz : (upd H9 TD (.frz od (.dK kvs))) TD = some (.frz od (.dK kvs)) := upd_same
    refine ⟨_, rfl, TD, od, rfl, .inl ⟨kvs, hfz, fun B nB => ?_⟩⟩
    have hBd : TD ≠ B := ne_of_none hfz nB
    have hKL : ((nms M).map V.str).length = kvs.length := by rw [← hKN, List.length_map]
    refine lc_it walk_keys (fun i H5 => H5 = upd (upd H9 TD (.frz od (.dK kvs))) B (.lst (((nms M).map V.str).take i))) rfl (fun i H5 _ e => by rw [e, upd_ne hBd]; exact hfz) ?_ ?_
    · rintro i x H5 H6 hi rfl ⟨rfl, kk, vv, hk, rfl⟩
      have hc' : ((nms M).map V.str)[i]? = some (kV kk) := by
        rw [← hKN, List.getElem?_map, hk]
        rfl
      have hc2 := hc'
      rw [List.getElem?_map] at hc2
      obtain ⟨w0, _, ew⟩ := Option.map_eq_some_iff.mp hc2
      refine ⟨rfl, ?_⟩
      refine ⟨_, rfl, w0, by rw [ew], _, upd_same, ?_, ?_⟩
      · rw [List.length_take]
        exact small1000 (by have := hKL2; omega)
      · rw [upd_upd, List.take_add_one, hc', ew]
        rfl
    rintro H5 rfl
    have nB' : H9 B = none := by
      rw [upd_ne hBd.symm] at nB
      exact nB
    rw [List.take_of_length_le (by omega)]
    refine ⟨by rw [upd_ne hBd]; exact hfz, ?_⟩
    have hB' : (upd (upd (upd H9 TD (.frz od (.dK kvs))) B (.lst ((nms M).map V.str))) TD (.dK kvs)) B = some (.lst ((nms M).map V.str)) := by rw [upd_ne hBd.symm, upd_same]
    have sm : Same H9 (upd (upd (upd H9 TD (.frz od (.dK kvs))) B (.lst ((nms M).map V.str))) TD (.dK kvs)) := fun b o e => by
      have h2 := ne_of_none e nB'
      by_cases h1 : b = TD
      · subst h1
        rw [hT9] at e
        rw [upd_same]
        exact e
      · rw [upd_ne h1, upd_ne h2, upd_ne h1]
        exact e
    generalize (upd (upd (upd H9 TD (.frz od (.dK kvs))) B (.lst ((nms M).map V.str))) TD (.dK kvs)) = H5 at hB' sm
    refine ⟨B, (nms M), rfl, sql_of hB', fun ol no => ?_⟩
    have s5 := same_upd (o := .lst (((nms M).mergeSort leT).map V.str)) no
    have hO : (upd H5 ol (.lst (((nms M).mergeSort leT).map V.str))) ol = some (.lst ((sortS (nms M)).map V.str)) := upd_same
    have sm5 := sm.trans s5
    generalize (upd H5 ol (.lst (((nms M).mergeSort leT).map V.str))) = H6 at hO sm5
    have ns1 : nms (srt M) = sortS (nms M) := srt_nms M
    have sn : (sortS (nms M)).length = M.length := by
      rw [(sortS_perm _).length_eq]
      unfold nms
      rw [List.length_map]
    have sl1 : (srt M).length = (sortS (nms M)).length := by
      rw [← ns1]
      unfold nms
      rw [List.length_map]
    have hT10 := sm5 _ _ hT9
    have hD10 := hD9.mono (Kt.same sm5).tup
    refine ⟨ol, rfl, ⟨_, sql_of hO⟩, fun DD nDD => lc_list (K := K) (a := ol) (xs := (sortS (nms M)).map V.str) (fun i H2 => ∃ us, H2 DD = some (.lst us) ∧ TAll H2 us ((srt M).take i) ∧ Same H6 H2) ⟨[], upd_same, .nil, same_upd nDD⟩ (fun i H2 _ ⟨_, _, _, z⟩ => sql_of (z _ _ hO)) ?_ ?_⟩
    · rintro i y H2 hi ⟨us, hDD, hT, sm2⟩
      have hil : i < ((sortS (nms M)).map V.str).length := (List.getElem?_eq_some_iff.mp hi).1
      rw [List.length_map] at hil
      have hx : (srt M)[i]? = some (srt M)[i] := List.getElem?_eq_getElem (by omega)
      generalize (srt M)[i] = x at hx
      have hy : y = .str x.nm := by
        rw [← ns1] at hi
        unfold nms at hi
        rw [List.getElem?_map, List.getElem?_map, hx] at hi
        exact (Option.some.inj hi).symm
      subst hy
      have hxM : getT M x.nm = some x := getT_mem hTb.nd ((mem_srt hTb.nd).mp (List.mem_of_getElem? hx))
      obtain ⟨e, _⟩ | ⟨x', t, e1, e2, e3⟩ := (hD10.mono (Kt.same sm2).tup).get x.nm
      · rw [e] at hxM
        cases hxM
      obtain rfl : x' = x := Option.some.inj (e1.symm.trans hxM)
      refine ⟨rfl, ?_⟩
      refine ⟨_, rfl, (by show 1 ≤ sizeLine; decide), fun q nq => ?_⟩
      have sq := same_upd (o := .tup [V.str x'.nm]) nq
      refine ⟨_, rfl, _, rfl, TD, .ref t, rfl, by rw [← e2]; exact DGet.k (k := Sum.inr x'.nm) (sq _ _ (sm2 _ _ hT10)), q, t, _, _, rfl, rfl, sql_ofT upd_same, sql_ofT (sq _ _ e3), by simp, by show 1 + 3 ≤ sizeLine; decide, fun z => absurd z (by simp), fun _ p np => ?_⟩
      have sp := same_upd (o := .tup ([V.str x'.nm] ++ [V.int x'.k, V.int x'.lo, V.int x'.hi])) np
      have hDp := sp _ _ (sq _ _ hDD)
      have npq : p ≠ DD := (ne_of_none (sq _ _ hDD) np).symm
      refine ⟨us, hDp, ?_, us ++ [.ref p], upd_same, ?_, ?_⟩
      · rw [hT.len, List.length_take]
        exact small1000 (by omega)
      · rw [List.take_add_one, hx, Option.toList_some]
        refine TAll.app ((hT.mono fun t xs z => ?_)) (.cons x' p ?_ .nil)
        · have z2 := sp _ _ (sq _ _ z)
          rw [upd_ne (ne_of z2 hDp fun w => nomatch w)]
          exact z2
        · rw [upd_ne npq, upd_same]
          rfl
      · intro b o eb
        have nbD : b ≠ DD := ne_of_none eb nDD
        rw [upd_ne nbD]
        exact sp _ _ (sq _ _ (sm2 _ _ eb))
    · rintro H2 ⟨us, hDD, hT, sm2⟩
      rw [List.length_map, List.take_of_length_le (by omega)] at hT
      refine ⟨DD, us, rfl, .inl ⟨sql_of hDD, fun l nl => ⟨(by show 2 ≤ sizeLine; decide), fun l2 nl2 => ⟨(by show 2 ≤ sizeLine; decide), fun l3 nl3 => ?_⟩⟩⟩⟩
      have sa1 := same_upd (o := .tup us) nl
      have sa2 := same_upd (o := .tup [V.int n0, V.ref l]) nl2
      have sa3 := same_upd (o := .tup [V.ref f, V.ref l2]) nl3
      have sF := (sm5.trans sm2).trans ((sa1.trans sa2).trans sa3)
      have hTF := hT.mono (Kt.same ((sa1.trans sa2).trans sa3)).tup
      exact k l3 (.ref f) l2 n0 (srt M) _ upd_same (.form f n0 (srt M) (hf9.keep sF)) ⟨l, us, sa3 _ _ upd_same, (sa2.trans sa3) _ _ upd_same, hTF⟩ (fun x hx => (hTb.t x ((mem_srt hTb.nd).mp hx)).2.2.2.2.2.2.1) (by omega) (kpF.trans (Kp.same sF)) (sr9.of_same sF)

end
end DO

namespace DO
open PySem PySem.Spec PyProof.Rows L2
section
variable {P : Program} {w : World} {K : PySem.W.Frag} {mg : Str → Option Value} {base : Heap}
/-! ### a call of rule -/
theorem atV_last {α : Type} {l : List α} (h : 0 < l.length) : ∃ c ∈ l, atI l (-1) = some c := by
  obtain ⟨ys, y, rfl⟩ : ∃ ys y, l = ys ++ [y] := ⟨l.dropLast, l.getLast (List.ne_nil_of_length_pos h), (List.dropLast_concat_getLast _).symm⟩
  exact ⟨y, by simp, atI_last ys y⟩
def tuA : Ac → Option Ac
  | .tu w k => some (.tu w k)
  | _ => none
theorem not_tuA {a : Ac} (e : ¬ decide (V.str a.lab = V.str (Str.ofString "turn")) = true) : tuA a = none := by
  cases a with
  | tu w k => exact absurd (decide_eq_true rfl) e
  | _ => rfl
theorem okS_st {z : Str} (h : okS z = true) : PyData.strOk z = true := by
  unfold okS okNm at h
  rw [Bool.and_eq_true] at h
  have h1 := h.1
  rw [← tx_cps z]
  generalize z.cps.toList = ds at h1
  cases ds with
  | nil => cases h1
  | cons c r =>
    rw [isNm_cons, Bool.and_eq_true] at h1
    unfold PyData.strOk
    rw [← Array.all_toList, tx_list]
    exact List.all_eq_true.mpr fun x hx => decide_eq_true (azn_small x (of_decide_eq_true (List.all_eq_true.mp h1.2 x hx)))
theorem okS_rp {z : Str} (h : okS z = true) : z.length ≤ 12 ∧ ∀ c ∈ z.cps.toList, c < 16 ^ 8 := by
  unfold okS okNm at h
  rw [Bool.and_eq_true] at h
  have h1 := h.1
  have e : z.length = z.cps.toList.length := by rw [← tx_cps z, tx_len, tx_list]
  rw [e]
  generalize z.cps.toList = ds at h1
  cases ds with
  | nil => cases h1
  | cons c r =>
    rw [isNm_cons, Bool.and_eq_true, Bool.and_eq_true] at h1
    refine ⟨of_decide_eq_true h1.1.1, fun x hx => ?_⟩
    exact Nat.lt_trans (azn_small x (of_decide_eq_true (List.all_eq_true.mp h1.2 x hx))) (by decide)
theorem nm_okS {ns : List (List Nat)} (hn : ∀ ds ∈ ns, Nm ds) {x : V} (h : x ∈ NmL ns) : ∃ w : Str, x = .str w ∧ okS w = true := by
  obtain ⟨ds, hd, rfl⟩ := nml_at h
  refine ⟨tx ds, rfl, ?_⟩
  unfold okS
  rw [tx_list]
  exact (hn ds hd).ok
theorem opt_mem {as : List Ac} {z : Str} {k : Int} (h : optOf as z = some k) : Ac.tu z k ∈ as := by
  rw [opt_some] at h
  obtain ⟨a, ha, e⟩ := List.exists_of_findSome?_eq_some h
  cases a with
  | tu w k2 =>
    simp only [isTu] at e
    by_cases ew : w = z
    · rw [if_pos ew] at e
      cases e
      subst ew
      exact ha
    · rw [if_neg ew] at e
      cases e
  | _ => cases e
theorem rep3_len {zs : List V} : ((List.replicate (3 : Int).toNat zs).flatten).length = 3 * zs.length := by
  show (zs ++ (zs ++ (zs ++ []))).length = _
  simp
  omega
theorem rep3_mem {zs : List V} {x : V} (h : x ∈ (List.replicate (3 : Int).toNat zs).flatten) : x ∈ zs := by
  have h' : x ∈ zs ++ (zs ++ (zs ++ [])) := h
  simpa using h'
abbrev sRcl : Stmt := top 61
theorem scRcl : FnScope ["_law_source_here", "_law_model", "_law_names_here", "_law_parts", "_law_act_here", "_law_turns", "_law_upper", "_law_lower", "_law_given", "_law_own", "_law_pairs", "_law_k", "_law_word_here", "_law_count", "_law_number_here", "_law_pair", "_law_passed"] ["_law_source_here", "_law_model", "_law_names_here"] (defScope sRcl) := ⟨rfl, rfl, rfl, by decide +kernel, rfl, by decide +kernel, by decide +kernel⟩
def Dist (H H' : Hp) (t : Addr) : Prop := ∀ xs q, H' t = some (.tup xs) → V.ref q ∈ xs → H q = none ∨ ∃ o, H' q = some o ∧ Fx o
def spRcl (C : Addr) : Sp := fun vs H Q _ => ∃ (a c m nl : Addr) (as : List Ac) (ns : List (List Nat)), vs = [.ref a, .ref m, .ref nl] ∧ Src H a c ∧ m ≠ a ∧ nl ≠ a ∧ ActsM H m as ∧ GoodC as ∧ (∀ x ∈ as, AcOk x) ∧ H nl = some (.lst (NmL ns)) ∧ 0 < ns.length ∧ ns.length ≤ 900 ∧ (∀ ds ∈ ns, Nm ds) ∧
  ∀ t wv cl H', CallW C H' t wv cl → ClOk cl → H wv = none → Dist H H' t → Kp a H H' → Src H' a c → Q (.ref t) H'
theorem ok_rcl {C : Addr} (D : Df K mg "_law_rule_call" sRcl ["_law_source_here", "_law_model", "_law_names_here"]) (TT : Fk P w K mg base 2 "_law_take" sTake ["_law_source_here", "_law_many"] spTake) (AN : Fk P w K mg base 3 "_law_any" sAny ["_law_source_here", "_law_first", "_law_second"] spAny) (LO : Fk P w K mg base 1 "_law_options_of" sLoo ["_law_model", "_law_word_here"] spLoo) (FD : Fk P w K mg base 7 "_law_form_draw" sFdr ["_law_source_here", "_law_model", "_law_names_here"] (spFdr C)) (mr : mg "range" = none) (mln : mg "len" = none) (mi : mg "int" = none) (mmx : mg "max" = none) (mlist : mg "list" = none) (mtu : mg "tuple" = none) :
    FnOk P w K mg base CX0 8 D.f D.fd ["_law_source_here", "_law_model", "_law_names_here"] (spRcl C) := by
  refine D.fn.ok scRcl (fun vs H Q E h => ?_) (fun cdv A outer s0 H vs Q E hr h => ?_)
  · obtain ⟨a, c, m, nl, as, ns, rfl, _⟩ := h
    rfl
  · obtain ⟨a, c, m, nl, as, ns, rfl, sr, nma, nna, hM, hg, hao, hnl, hn0, hn1, hnm, k⟩ := h
    have hu := hu_of hr
    refine ⟨_, (pss_cons (ps_set (i := 3) scRcl.nd rfl (.inl rfl) (pe_op op_cat (pe_lst (pa_cons pe_str pa_nil)) (pe_lc (own := [("_law_act_here", 4)]) (g := gName 4) (tt := _) rfl scRcl.nd (pi_list (pv 1)) (blkOk_by (N := ["_law_source_here", "_law_model", "_law_names_here", "_law_parts", "_law_act_here", "_law_turns", "_law_upper", "_law_lower", "_law_given", "_law_own", "_law_pairs", "_law_k", "_law_word_here", "_law_count", "_law_number_here", "_law_pair", "_law_passed"]) (sc := defScope sRcl) (by decide +kernel)) (fun _ _ _ _ _ => pg_name (i := 4) scRcl.nd rfl (Or.inl rfl)) (fun _ _ _ _ _ => pts_one (pt_cmpR op_eq (pe_ix (show IxR _ (rIxT K) from ix_tup) (pv 4) pe_int (fun _ _ => rfl)) pe_str (nomark _))) (fun _ _ _ _ _ => (pe_ix (show IxR _ (rIxT K) from ix_tup) (pv 4) pe_int (fun _ _ => rfl))))))
      (pss_cons (ps_setLc (i := 5) (own := [("_law_act_here", 4)]) (g := gName 4) (tt := _) rfl scRcl.nd rfl rfl (sw_true rfl rfl rfl (by decide +kernel)) (pi_list (pv 1)) (blkOk_by (N := ["_law_source_here", "_law_model", "_law_names_here", "_law_parts", "_law_act_here", "_law_turns", "_law_upper", "_law_lower", "_law_given", "_law_own", "_law_pairs", "_law_k", "_law_word_here", "_law_count", "_law_number_here", "_law_pair", "_law_passed"]) (sc := defScope sRcl) (by decide +kernel)) (fun _ _ _ _ _ => pg_name (i := 4) scRcl.nd rfl (Or.inl rfl)) (fun _ _ _ _ _ => pts_one (pt_cmpR op_eq (pe_ix (show IxR _ (rIxT K) from ix_tup) (pv 4) pe_int (fun _ _ => rfl)) pe_str (nomark _))) (fun _ _ _ _ _ => (pv 4)))
      (pss_cons (ps_set (i := 6) scRcl.nd rfl (.inl rfl) (pe_call AN.G (hr.mono (by decide)) (by rfl) AN.D.mgf AN.D.fn.kp AN.D.bd .nil pass0 (pa_cons (pv 0) (pa_cons (pe_op op_cat (pv 3) (pv 3)) (pa_cons (pv 2) pa_nil)))))
      (pss_cons (ps_set (i := 7) scRcl.nd rfl (.inl rfl) (pe_call AN.G (hr.mono (by decide)) (by rfl) AN.D.mgf AN.D.fn.kp AN.D.bd .nil pass0 (pa_cons (pv 0) (pa_cons (pe_op op_cat (pv 3) (pv 3)) (pa_cons (pv 2) pa_nil)))))
      (C8.pss_cut (ps_if (PW.pt (pw_and (pt_cmpR op_eq (pv 7) (pv 6) (nomark _)) (pw_and1 (pt_cmpR op_gt (pe_call TT.G (hr.mono (by decide)) (by rfl) TT.D.mgf TT.D.fn.kp TT.D.bd .nil pass0 (pa_cons (pv 0) (pa_cons pe_int pa_nil))) pe_int (nomark _)))))
      (pss_one (ps_set (i := 7) scRcl.nd rfl (.inl rfl) (pe_ix ix_list (pv 3) (pe_op op_modL (pe_callTy call_int1L (by rfl) mi (by decide +kernel) (pa_cons (pe_op op_addL (pe_call TT.G (hr.mono (by decide)) (by rfl) TT.D.mgf TT.D.fn.kp TT.D.bd .nil pass0 (pa_cons (pv 0) (pa_cons (pe_callB call_len_seq (by rfl) mln PySem.boot_len (pa_cons (pv 3) pa_nil)) pa_nil))) pe_int) pa_nil)) (pe_callB call_len_seq (by rfl) mln PySem.boot_len (pa_cons (pv 3) pa_nil))) (fun _ _ => rfl))))
      pss_nil)
      (C8.pss_cut (ps_if (PW.pt (pw_and (pt_cmpR op_eq (pv 7) (pv 6) (nomark _)) (pw_and1 (pt_cmpR op_gt (pe_call TT.G (hr.mono (by decide)) (by rfl) TT.D.mgf TT.D.fn.kp TT.D.bd .nil pass0 (pa_cons (pv 0) (pa_cons pe_int pa_nil))) pe_int (nomark _)))))
      (pss_one (ps_set (i := 7) scRcl.nd rfl (.inl rfl) (pe_ix ix_list (pv 3) (pe_un un_neg pe_int) (fun _ _ => rfl))))
      pss_nil)
      (pss_cons (ps_asg (pe_call FD.G (hr.mono (by decide)) (by rfl) FD.D.mgf FD.D.fn.kp FD.D.bd .nil pass0 (pa_cons (pv 0) (pa_cons (pv 1) (pa_cons (pv 2) pa_nil)))) (pg_tup rfl (pgs_cons (pg_name (i := 8) scRcl.nd rfl (Or.inl rfl)) (pgs_cons (pg_name (i := 9) scRcl.nd rfl (Or.inl rfl)) pgs_nil))))
      (pss_cons (ps_set (i := 10) scRcl.nd rfl (.inl rfl) (pe_lst pa_nil))
      (pss_cons (ps_for PassesOwn.never rfl (pi_range1 rfl mr (pa_cons (pe_call TT.G (hr.mono (by decide)) (by rfl) TT.D.mgf TT.D.fn.kp TT.D.bd .nil pass0 (pa_cons (pv 0) (pa_cons pe_int pa_nil))) pa_nil)) (pg_name (i := 11) scRcl.nd rfl (Or.inl rfl))
      (pss_cons (ps_set (i := 12) scRcl.nd rfl (.inl rfl) (pe_call AN.G (hr.mono (by decide)) (by rfl) AN.D.mgf AN.D.fn.kp AN.D.bd .nil pass0 (pa_cons (pv 0) (pa_cons (pe_op op_rep (pe_lc (own := [("_law_act_here", 4)]) (g := gName 4) (tt := tYes) rfl scRcl.nd (pi_list (pv 5)) (blkOk_by (N := ["_law_source_here", "_law_model", "_law_names_here", "_law_parts", "_law_act_here", "_law_turns", "_law_upper", "_law_lower", "_law_given", "_law_own", "_law_pairs", "_law_k", "_law_word_here", "_law_count", "_law_number_here", "_law_pair", "_law_passed"]) (sc := defScope sRcl) (by decide +kernel)) (fun _ _ _ _ _ => pg_name (i := 4) scRcl.nd rfl (Or.inl rfl)) (fun _ _ _ _ _ => pts_nil) (fun _ _ _ _ _ => (pe_ix (show IxR _ (rIxT K) from ix_tup) (pv 4) pe_int (fun _ _ => rfl)))) pe_int) (pa_cons (pv 2) pa_nil)))))
      (C8.pss_cut (ps_set (i := 13) scRcl.nd rfl (.inl rfl) (pe_call LO.G (hr.mono (by decide)) (by rfl) LO.D.mgf LO.D.fn.kp LO.D.bd .nil pass0 (pa_cons (pv 1) (pa_cons (pv 12) pa_nil))))
      (pss_cons (ps_set (i := 14) scRcl.nd rfl (.inl rfl) (pe_ix ix_list (pe_lst (pa_cons (pe_un un_neg pe_int) (pa_cons pe_int (pa_cons (pe_call TT.G (hr.mono (by decide)) (by rfl) TT.D.mgf TT.D.fn.kp TT.D.bd .nil pass0 (pa_cons (pv 0) (pa_cons pe_int pa_nil))) pa_nil)))) (pe_call TT.G (hr.mono (by decide)) (by rfl) TT.D.mgf TT.D.fn.kp TT.D.bd .nil pass0 (pa_cons (pv 0) (pa_cons pe_int pa_nil))) (fun _ _ => rfl)))
      (C8.pss_cut (ps_if (PW.pt (pw_and (pt_cmp (pc_notN (pv 13))) (pw_and1 (pt_cmpR op_gt (pe_call TT.G (hr.mono (by decide)) (by rfl) TT.D.mgf TT.D.fn.kp TT.D.bd .nil pass0 (pa_cons (pv 0) (pa_cons pe_int pa_nil))) pe_int (nomark _)))))
      (pss_one (ps_set (i := 14) scRcl.nd rfl (.inl rfl) (pe_call TT.G (hr.mono (by decide)) (by rfl) TT.D.mgf TT.D.fn.kp TT.D.bd .nil pass0 (pa_cons (pv 0) (pa_cons (pe_callB (call_max2L rfl) (by rfl) mmx (by decide +kernel) (pa_cons pe_int (pa_cons (pe_callTy call_int1L (by rfl) mi (by decide +kernel) (pa_cons (pv 13) pa_nil)) pa_nil))) pa_nil)))))
      pss_nil)
      (pss_one (ps_if (PW.pt (pw_or (pt_cmpR (show OpR _ _ (rIn K true) from op_notIn_seq) (pv 12) (pe_lc (own := [("_law_pair", 15)]) (g := gName 15) (tt := tYes) rfl scRcl.nd (pi_list (pv 10)) (blkOk_by (N := ["_law_source_here", "_law_model", "_law_names_here", "_law_parts", "_law_act_here", "_law_turns", "_law_upper", "_law_lower", "_law_given", "_law_own", "_law_pairs", "_law_k", "_law_word_here", "_law_count", "_law_number_here", "_law_pair", "_law_passed"]) (sc := defScope sRcl) (by decide +kernel)) (fun _ _ _ _ _ => pg_name (i := 15) scRcl.nd rfl (Or.inl rfl)) (fun _ _ _ _ _ => pts_nil) (fun _ _ _ _ _ => (pe_ix (show IxR _ (rIxT K) from ix_tup) (pv 15) pe_int (fun _ _ => rfl)))) rfl) (pw_or1 (pt_cmpR op_eq (pe_call TT.G (hr.mono (by decide)) (by rfl) TT.D.mgf TT.D.fn.kp TT.D.bd .nil pass0 (pa_cons (pv 0) (pa_cons pe_int pa_nil))) pe_int (nomark _)))))
      (pss_one (ps_expr (pe_bm PySem.F.plainAttrs_list PySem.F.slot_list_append PySem.F.type_list_append mt_append (pv 10) (pa_cons (pe_tup (pa_cons (pv 12) (pa_cons (pv 14) pa_nil))) pa_nil))))
      pss_nil)))))))
      (pss_cons (ps_set (i := 16) scRcl.nd rfl (.inl rfl) (pe_ifExp (pt_cmpR op_eq (pe_call TT.G (hr.mono (by decide)) (by rfl) TT.D.mgf TT.D.fn.kp TT.D.bd .nil pass0 (pa_cons (pv 0) (pa_cons pe_int pa_nil))) pe_int (nomark _)) (pe_callTy call_list_of (by rfl) mlist (by decide +kernel) (pa_cons (pv 10) pa_nil)) (pe_callTy call_tuple_of (by rfl) mtu (by decide +kernel) (pa_cons (pv 10) pa_nil))))
      (pss_one (ps_ret (pe_tup (pa_cons pe_str (pa_cons (pv 6) (pa_cons (pv 7) (pa_cons (pv 8) (pa_cons (pv 9) (pa_cons (pv 10) (pa_cons (pv 16) pa_nil)))))))))))))))))))), ?_⟩
    obtain ⟨⟨ms, hm, hMA⟩, _⟩ := id hM
    have hml := hMA.len
    have hlen := hg.len
    obtain ⟨_, hsa⟩ := sr.at_
    refine ⟨(by show 1 ≤ sizeLine; decide), fun q0 nq0 => ?_⟩
    have s0' := same_upd (o := .lst [V.str "frame"]) nq0
    have hq0 : (upd H q0 (.lst [V.str "frame"])) q0 = some (.lst [V.str "frame"]) := upd_same
    generalize (upd H q0 (.lst [V.str "frame"])) = H0 at s0' hq0
    have hm0 := s0' _ _ hm
    have hMA0 := hMA.kt (.same s0')
    refine ⟨_, rfl, m, rfl, ⟨_, sql_of hm0⟩, fun E1 nE => ?_⟩
    refine lc_pick walk_list as paP (fun _ v z => v = .str z) (fun _ _ _ _ _ z => z) nE (fun H2 s2 => sql_of (s2 _ _ hm0)) hml (by omega) (fun i x d H2 Yes No hx hd s2 hYes hNo => ?_) (fun H2 zs hE hZ s2 => ?_)
    · obtain ⟨d', hd', hxd⟩ := hMA0.at_ hx
      obtain rfl : d' = d := Option.some.inj (hd'.symm.trans hd)
      have hx2 := hxd.kt (.same s2)
      obtain ⟨t1, ws, rfl, ht1, _⟩ := hx2.lab
      refine ⟨rfl, _, rfl, t1, _, 0, .str d'.lab, rfl, rfl, sql_ofT ht1, at0, rfl, _, rfl, ite2 (fun e => ?_) (fun e => ?_)⟩
      · obtain ⟨w', rfl⟩ := lab_pa e
        obtain ⟨t', xs', e', h1, rfl⟩ := hx2
        cases e'
        exact ⟨_, rfl, t1, _, 1, .str w', rfl, rfl, sql_ofT h1, at1, hYes _ _ w' rfl (.refl _) rfl⟩
      · exact hNo _ (not_pa e) (.refl _)
    obtain rfl := strs_list (H := H2) hZ
    have s12 := s0'.trans s2
    have hpl2 : (as.filterMap paP).length ≤ as.length := List.length_filterMap_le _ _
    refine ⟨q0, E1, _, _, rfl, rfl, s2 _ _ hq0, hE, (by rw [List.length_map]; exact sz16 (by show 1 + _ ≤ 1000; omega)), fun R nR => ?_⟩
    have hRp : (upd H2 R (.lst ([V.str "frame"] ++ (as.filterMap paP).map V.str))) R = some (.lst ((partsOf as).map V.str)) := upd_same
    have s13 := s12.trans (same_upd (o := .lst ([V.str "frame"] ++ (as.filterMap paP).map V.str)) nR)
    have nRa : R ≠ a := (ne_of_none (s12 _ _ hsa) nR).symm
    generalize (upd H2 R (.lst ([V.str "frame"] ++ (as.filterMap paP).map V.str))) = H3 at hRp s13
    have hm3 := s13 _ _ hm
    have hMA3 := hMA.kt (.same s13)
    refine ⟨_, rfl, m, rfl, ⟨_, sql_of hm3⟩, fun Y nY => ?_⟩
    have nYa : Y ≠ a := (ne_of_none (s13 _ _ hsa) nY).symm
    refine lc_pick walk_list as tuA AcM (fun _ _ _ _ q z => z.kt q) nY (fun H4 s4 => sql_of (s4 _ _ hm3)) hml (by omega) (fun i x d H4 Yes No hx hd s4 hYes hNo => ?_) (fun H4 tz hY hTz s4 => ?_)
    · obtain ⟨d', hd', hxd⟩ := hMA3.at_ hx
      obtain rfl : d' = d := Option.some.inj (hd'.symm.trans hd)
      have hx2 := hxd.kt (.same s4)
      obtain ⟨t1, ws, rfl, ht1, _⟩ := hx2.lab
      refine ⟨rfl, _, rfl, t1, _, 0, .str d'.lab, rfl, rfl, sql_ofT ht1, at0, rfl, _, rfl, ite2 (fun e => ?_) (fun e => ?_)⟩
      · obtain ⟨w', n', rfl⟩ := lab_tu e
        exact ⟨_, rfl, hYes _ _ (.tu w' n') rfl (.refl _) hx2⟩
      · exact hNo _ (not_tuA e) (.refl _)
    have s14 := s13.trans s4
    have hRp4 := s4 _ _ hRp
    have sr4 := sr.of_same s14
    have hnl4 := s14 _ _ hnl
    have pstr : ∀ x ∈ (partsOf as).map V.str, ∃ z : Str, x = .str z ∧ PyData.strOk z = true := fun x hx => by
      obtain ⟨z, hz, rfl⟩ := List.mem_map.mp hx
      refine ⟨z, rfl, ?_⟩
      rcases List.mem_cons.mp hz with rfl | hz
      · decide +kernel
      · obtain ⟨y, hy, e⟩ := List.mem_filterMap.mp hz
        cases y with
        | pa w => cases e; exact hao _ hy
        | _ => cases e
    have hpn : ((partsOf as).map V.str).length ≤ 200 := by rw [List.length_map]; show (_ :: _).length ≤ 200; rw [List.length_cons]; omega
    have hp0 : 0 < ((partsOf as).map V.str).length := by rw [List.length_map]; show 0 < (_ :: _).length; rw [List.length_cons]; omega
    have pick : ∀ {x : V}, (x ∈ (partsOf as).map V.str ++ (partsOf as).map V.str ∨ x ∈ NmL ns) → ∃ z : Str, x = .str z ∧ PyData.strOk z = true := fun hx => by
      rcases hx with hx | hx
      · rcases List.mem_append.mp hx with hx | hx
        · exact pstr _ hx
        · exact pstr _ hx
      · obtain ⟨w, rfl, h⟩ := nm_okS hnm hx
        exact ⟨w, rfl, okS_st h⟩
    refine ⟨_, rfl, _, rfl, _, rfl, R, R, _, _, rfl, rfl, hRp4, hRp4, sz16 (by omega), fun p1 np1 => ?_⟩
    have sp1 := same_upd (o := .lst ((partsOf as).map V.str ++ (partsOf as).map V.str)) np1
    obtain ⟨_, hsa4⟩ := sr4.at_
    refine ⟨_, rfl, a, c, p1, nl, _, _, rfl, sr4.of_same sp1, (ne_of_none hsa4 np1).symm, nna, upd_same, sp1 _ _ hnl4, by rw [nml_len]; exact hn0, by rw [List.length_append]; omega, by rw [nml_len]; omega, fun xu H5 hxu kp5 sr5 => ?_⟩
    obtain ⟨u, rfl, hu1⟩ := pick hxu
    have kp45 := (Kp.same sp1).trans kp5
    have hRp5 := kp45 _ _ hRp4 nRa
    have hnl5 := kp45 _ _ hnl4 nna
    refine ⟨_, rfl, _, rfl, _, rfl, R, R, _, _, rfl, rfl, hRp5, hRp5, sz16 (by omega), fun p2 np2 => ?_⟩
    have sp2 := same_upd (o := .lst ((partsOf as).map V.str ++ (partsOf as).map V.str)) np2
    obtain ⟨_, hsa5⟩ := sr5.at_
    refine ⟨_, rfl, a, c, p2, nl, _, _, rfl, sr5.of_same sp2, (ne_of_none hsa5 np2).symm, nna, upd_same, sp2 _ _ hnl5, by rw [nml_len]; exact hn0, by rw [List.length_append]; omega, by rw [nml_len]; omega, fun xl H6 hxl kp6 sr6 => ?_⟩
    obtain ⟨l0, rfl, hl0⟩ := pick hxl
    have kp46 := kp45.trans ((Kp.same sp2).trans kp6)
    refine ⟨fun σ' H' => ∃ l1 : Str, σ' = [some (.ref a), some (.ref m), some (.ref nl), some (.ref R), none, some (.ref Y), some (.str u), some (.str l1), none, none, none, none, none, none, none, none, none] ∧ PyData.strOk l1 = true ∧ Kp a H4 H' ∧ Src H' a c, ?_, ?_⟩
    · refine ⟨_, rfl, _, rfl, rfl, _, rfl, ite2 (fun _ => ⟨_, rfl, a, c, 8, rfl, sr6, by decide, by decide, fun t7 H7 _ _ kp7 sr7 => ⟨_, _, rfl, rfl, _, rfl, ite2 (fun _ => ?_) (fun _ => ⟨l0, rfl, hl0, kp46.trans kp7, sr7⟩)⟩⟩) (fun _ => ⟨l0, rfl, hl0, kp46, sr6⟩)⟩
      have kp47 := kp46.trans kp7
      have hRp7 := kp47 _ _ hRp4 nRa
      refine ⟨_, rfl, _, rfl, _, rfl, R, _, rfl, .inl (sql_of hRp7), a, c, _, rfl, sr7, (by omega), small200 (by omega), fun t8 H8 t80 t81 kp8 sr8 => ⟨_, _, rfl, rfl, fun r er => ⟨_, rfl, _, rfl, R, _, rfl, .inl (sql_of (kp8 _ _ hRp7 nRa)), _, _, rfl, rfl, (by omega), fun d d0 d1 => ?_⟩⟩⟩
      obtain ⟨x, hxm, hxe⟩ := atV_mem (l := (partsOf as).map V.str) d0 d1
      obtain ⟨z, rfl, hz⟩ := pstr x hxm
      exact ⟨R, _, d, _, rfl, rfl, sql_of (kp8 _ _ hRp7 nRa), hxe, z, rfl, hz, kp47.trans kp8, sr8⟩
    rintro σ' H7 ⟨l1, rfl, hl1, kp7, sr7⟩
    refine ⟨fun σ' H' => ∃ l2 : Str, σ' = [some (.ref a), some (.ref m), some (.ref nl), some (.ref R), none, some (.ref Y), some (.str u), some (.str l2), none, none, none, none, none, none, none, none, none] ∧ PyData.strOk l2 = true ∧ Kp a H4 H' ∧ Src H' a c, ?_, ?_⟩
    · refine ⟨_, rfl, _, rfl, rfl, _, rfl, ite2 (fun _ => ⟨_, rfl, a, c, 8, rfl, sr7, by decide, by decide, fun t8 H8 _ _ kp8 sr8 => ⟨_, _, rfl, rfl, _, rfl, ite2 (fun _ => ?_) (fun _ => ⟨l1, rfl, hl1, kp7.trans kp8, sr8⟩)⟩⟩) (fun _ => ⟨l1, rfl, hl1, kp7, sr7⟩)⟩
      have kp48 := kp7.trans kp8
      obtain ⟨x, hxm, hxe⟩ := atV_last (l := (partsOf as).map V.str) hp0
      obtain ⟨z, rfl, hz⟩ := pstr x hxm
      exact ⟨_, rfl, _, rfl, R, _, -1, _, rfl, rfl, sql_of (kp48 _ _ hRp4 nRa), hxe, z, rfl, hz, kp48, sr8⟩
    rintro σ' H8 ⟨l, rfl, hl, kp8, sr8⟩
    have kpH8 : Kp a H H8 := (Kp.same s14).trans kp8
    have hM8 := hM.kp kpH8 hsa nma
    refine ⟨_, rfl, _, rfl, _, rfl, a, c, m, nl, as, ns, rfl, sr8, nma, nna, hM8, hg, hao, kp8 _ _ hnl4 nna, hn0, hn1, hnm, fun tt x mf n0 ts H9 htt hop hmf hnok hts kp9 sr9 => ?_⟩
    refine ⟨tt, _, rfl, sql_ofT htt, rfl, _, _, rfl, _, _, rfl, rfl, ?_⟩
    have kpH9 := kpH8.trans kp9
    refine ⟨(by show 0 ≤ sizeLine; decide), fun PL nPL => ?_⟩
    have sPL := same_upd (o := .lst []) nPL
    have hPL : (upd H9 PL (.lst [])) PL = some (.lst []) := upd_same
    obtain ⟨_, hsa9⟩ := sr9.at_
    have nPa : PL ≠ a := (ne_of_none hsa9 nPL).symm
    have kp49 := kp8.trans kp9
    have hY9 := kp49 _ _ hY nYa
    have hM9 := hM.kp kpH9 hsa nma
    have nPY : PL ≠ Y := (ne_of_none hY9 nPL).symm
    have nPn : PL ≠ nl := (ne_of_none (kp49 _ _ hnl4 nna) nPL).symm
    have nPm : PL ≠ m := by
      obtain ⟨⟨ym, hym, _⟩, _⟩ := hM9
      exact (ne_of_none hym nPL).symm
    have hPLn : H PL = none := Src.free kpH9 sr9 nPL
    have hcP : c ≠ PL := by
      obtain ⟨z0, z1, nsx, hz0, _, hcx, _⟩ := id sr9
      exact ne_of_none hcx nPL
    have hY10 := sPL _ _ hY9
    have hTz10 := (hTz.mono fun _ _ z => AcM.kt z (Kt.kp kp49 hsa4)).mono fun _ _ z => AcM.kt z (.same sPL)
    have hnl10 := sPL _ _ (kp49 _ _ hnl4 nna)
    have hM10 := hM9.same sPL
    have sr10 := sr9.of_same sPL
    have hop10 := hop.kt (.same sPL)
    have hmf10 := hmf.kt (.same sPL)
    have kpH10 := kpH9.trans (Kp.same sPL)
    have htl := hTz.len
    have htl2 : (as.filterMap tuA).length ≤ as.length := List.length_filterMap_le _ _
    generalize (upd H9 PL (.lst [])) = H10 at sPL hPL hY10 hTz10 hnl10 hM10 sr10 hop10 hmf10 kpH10
    obtain ⟨xsa10, hsa10⟩ := sr10.at_
    refine ⟨_, rfl, a, c, 4, rfl, sr10, by decide, by decide, fun mk H11 mk0 mk1 kp11 sr11 => ?_⟩
    refine ⟨mk, rfl, by omega, by omega, for_range (lo := 0) (n := mk.toNat) (fun i σ H12 => ∃ ps us x11 x12 x13 x14, σ = [some (.ref a), some (.ref m), some (.ref nl), some (.ref R), none, some (.ref Y), some (.str u), some (.str l), some x, some (.ref mf), some (.ref PL), x11, x12, x13, x14, none, none] ∧ H12 PL = some (.lst us) ∧ PAll H12 us ps ∧ (∀ p ∈ ps, okS p.1 = true ∧ p.2.natAbs < 2 ^ 201) ∧ ps.length ≤ i ∧ (∀ b o, H10 b = some o → b ≠ a → b ≠ PL → H12 b = some o) ∧ Src H12 a c) ⟨[], [], none, none, none, none, rfl, kp11 _ _ hPL nPa, .nil, fun p hp => by simp at hp, Nat.le_refl _, fun b o e n1 _ => kp11 b o e n1, sr11⟩ ?_ ?_⟩
    · rintro i σ H12 hi ⟨ps, us, x11, x12, x13, x14, rfl, hP12, hps12, hpok, hpl_, k12, sr12⟩
      have hi4 : i < 4 := by omega
      have kt12 : Kt H10 H12 := Kt.k2 k12 hsa10 hPL (fun z => z)
      have hY12 := k12 _ _ hY10 nYa nPY.symm
      have hnl12 := k12 _ _ hnl10 nna nPn.symm
      have hTz12 := hTz10.mono fun _ _ z => AcM.kt z kt12
      have hpsl := hps12.len
      refine ⟨_, rfl, _, rfl, Y, rfl, ⟨_, sql_of hY12⟩, fun E2 nE2 => ?_⟩
      refine lc_pick walk_list (as.filterMap tuA) (fun d => some d.nm) (fun _ v (z : Str) => v = .str z) (fun _ _ _ _ _ z => z) nE2 (fun H2 s2 => sql_of (s2 _ _ hY12)) htl (by omega) (fun j y d H5 Yes No hx hd s5 hYes hNo => ?_) (fun H13 zs hE2 hZ2 s13' => ?_)
      · obtain ⟨d', hd', hxd⟩ := hTz12.at_ hx
        obtain rfl : d' = d := Option.some.inj (hd'.symm.trans hd)
        obtain ⟨t1, ws, rfl, ht1, hn⟩ := (hxd.kt (.same s5)).lab
        have hno : d'.isRu = false := by
          obtain ⟨b, _, e⟩ := List.mem_filterMap.mp (List.mem_of_getElem? hd)
          cases b with
          | tu w' k' => cases e; rfl
          | _ => cases e
        obtain ⟨ys2, rfl⟩ := hn hno
        exact ⟨rfl, _, rfl, t1, _, 1, .str d'.nm, rfl, rfl, sql_ofT ht1, at1, hYes _ _ _ rfl (.refl _) rfl⟩
      have ez : zs = ((as.filterMap tuA).map Ac.nm).map V.str := by
        refine strs_list (H := H13) ?_
        rw [← List.filterMap_eq_map]
        exact hZ2
      subst ez
      have hzl : (((as.filterMap tuA).map Ac.nm).map V.str).length ≤ 95 := by rw [List.length_map, List.length_map]; omega
      have sr13 := sr12.of_same s13'
      refine ⟨E2, 3, _, rfl, rfl, hE2, by decide, by decide, sz16 (by show _ * 3 ≤ 1000; omega), fun p3 np3 => ?_⟩
      have sp3 := same_upd (o := .lst (List.replicate (3 : Int).toNat (((as.filterMap tuA).map Ac.nm).map V.str)).flatten) np3
      obtain ⟨_, hsa13⟩ := sr13.at_
      have s123 := s13'.trans sp3
      refine ⟨_, rfl, a, c, p3, nl, _, _, rfl, sr13.of_same sp3, (ne_of_none hsa13 np3).symm, nna, upd_same, s123 _ _ hnl12, by rw [nml_len]; exact hn0, by rw [rep3_len]; omega, by rw [nml_len]; omega, fun xw H14 hxw kp14 sr14 => ?_⟩
      obtain ⟨w, rfl, hw⟩ : ∃ w : Str, xw = .str w ∧ okS w = true := by
        rcases hxw with h | h
        · obtain ⟨z, hz, rfl⟩ := List.mem_map.mp (rep3_mem h)
          obtain ⟨y, hy, rfl⟩ := List.mem_map.mp hz
          obtain ⟨b, hb, e⟩ := List.mem_filterMap.mp hy
          cases b with
          | tu w' k' => cases e; exact ⟨w', rfl, hg.tu w' k' hb⟩
          | _ => cases e
        · exact nm_okS hnm h
      have kp124 : Kp a H12 H14 := (Kp.same s123).trans kp14
      have hP14 := kp124 _ _ hP12 nPa
      obtain ⟨_, hsa12⟩ := sr12.at_
      have hps14 := hps12.kt (Kt.kp kp124 hsa12)
      have k14 : ∀ b o, H10 b = some o → b ≠ a → b ≠ PL → H14 b = some o := fun b o e n1 n2 => kp124 _ _ (k12 b o e n1 n2) n1
      have hM14 : ActsM H14 m as := by
        obtain ⟨⟨ym, hym, hyA⟩, hz⟩ := hM10
        exact ⟨⟨ym, k14 _ _ hym nma nPm.symm, hyA.kt (Kt.k2 k14 hsa10 hPL (fun z => z))⟩, hz⟩
      refine ⟨fun σ' H' => ∃ xc, σ' = [some (.ref a), some (.ref m), some (.ref nl), some (.ref R), none, some (.ref Y), some (.str u), some (.str l), some x, some (.ref mf), some (.ref PL), some (.int (0 + (i : Int))), some (.str w), some xc, x14, none, none] ∧ (xc = .non ∨ ∃ cc, xc = .int cc ∧ cc ≤ 100) ∧ H' = H14, ?_, ?_⟩
      · exact ⟨_, rfl, _, rfl, m, as, w, rfl, hM14, fun he => ⟨.non, rfl, .inl rfl, rfl⟩, fun cc he => ⟨.int cc, rfl, .inr ⟨cc, rfl, (hao _ (opt_mem he)).2⟩, rfl⟩⟩
      rintro σ' H' ⟨xc, rfl, hxc, eH⟩
      have eH2 := eH.symm
      subst eH2
      refine ⟨_, rfl, _, rfl, a, c, 12, rfl, sr14, by decide, by decide, fun t1 H15 t10 t11 kp15 sr15 => ⟨(by show 3 ≤ sizeLine; decide), fun lq nlq => ?_⟩⟩
      have slq := same_upd (o := .lst [V.int (-1), V.int 9, V.int t1]) nlq
      obtain ⟨_, hsa15⟩ := sr15.at_
      have nlqa : lq ≠ a := (ne_of_none hsa15 nlq).symm
      refine ⟨_, rfl, a, c, 3, rfl, sr15.of_same slq, by decide, by decide, fun t2 H16 t20 t21 kp16 sr16 => ?_⟩
      obtain ⟨y, hym, hye⟩ := atV_mem (l := [V.int (-1), V.int 9, V.int t1]) t20 t21
      obtain ⟨n1, rfl, hn1b⟩ : ∃ n1 : Int, y = .int n1 ∧ n1.natAbs < 2 ^ 201 := by
        simp only [List.mem_cons, List.not_mem_nil, or_false] at hym
        rcases hym with rfl | rfl | rfl
        · exact ⟨_, rfl, by decide⟩
        · exact ⟨_, rfl, by decide⟩
        · exact ⟨_, rfl, Nat.lt_of_le_of_lt (show _ ≤ 12 by omega) (by decide)⟩
      refine ⟨lq, _, t2, _, rfl, rfl, sql_of (kp16 _ _ upd_same nlqa), hye, ?_⟩
      have kp146 : Kp a H14 H16 := (kp15.trans (Kp.same slq)).trans kp16
      have kp126 := kp124.trans kp146
      refine ⟨fun σ' H' => ∃ n2 : Int, σ' = [some (.ref a), some (.ref m), some (.ref nl), some (.ref R), none, some (.ref Y), some (.str u), some (.str l), some x, some (.ref mf), some (.ref PL), some (.int (0 + (i : Int))), some (.str w), some xc, some (.int n2), none, none] ∧ n2.natAbs < 2 ^ 201 ∧ Kp a H12 H' ∧ Src H' a c, ?_, ?_⟩
      · rcases hxc with rfl | ⟨cc, rfl, hcc⟩
        · exact ⟨_, rfl, _, rfl, iteF' rfl ⟨n1, rfl, hn1b, kp126, sr16⟩⟩
        · refine ⟨_, rfl, _, rfl, iteT' rfl ⟨_, rfl, a, c, 4, rfl, sr16, by decide, by decide, fun t3 H17 _ _ kp17 sr17 => ⟨_, _, rfl, rfl, _, rfl, ite2 (fun _ => ?_) (fun _ => ⟨n1, rfl, hn1b, kp126.trans kp17, sr17⟩)⟩⟩⟩
          refine ⟨_, rfl, _, rfl, _, rfl, 1, cc, rfl, fun r er => ?_⟩
          have hr1 : 0 < r := by omega
          have hr2 : r ≤ 100 := by omega
          exact ⟨a, c, r, rfl, sr17, hr1, small200 (by omega), fun d H18 d0 d1 kp18 sr18 => ⟨d, rfl, Nat.lt_of_le_of_lt (show _ ≤ 100 by omega) (by decide), (kp126.trans kp17).trans kp18, sr18⟩⟩
      rintro σ' H17 ⟨n2, rfl, hn2, kp17, sr17⟩
      have hP17 := kp17 _ _ hP12 nPa
      have hps17 := hps12.kt (Kt.kp kp17 hsa12)
      refine ⟨_, rfl, _, rfl, PL, rfl, ⟨_, sql_of hP17⟩, fun E3 nE3 => ?_⟩
      refine lc_pick walk_list ps (fun p => some p.1) (fun _ v (z : Str) => v = .str z) (fun _ _ _ _ _ z => z) nE3 (fun H2 s2 => sql_of (s2 _ _ hP17)) hpsl (by omega) (fun j y d H5 Yes No hx hd s5 hYes hNo => ?_) (fun H18 zs hE3 hZ3 s18 => ?_)
      · obtain ⟨d', hd', t, rfl, ht⟩ := hps17.at_ hx
        obtain rfl : d' = d := Option.some.inj (hd'.symm.trans hd)
        exact ⟨rfl, _, rfl, t, _, 0, .str d'.1, rfl, rfl, sql_ofT (s5 _ _ ht), at0, hYes _ _ d'.1 rfl (.refl _) rfl⟩
      obtain rfl := strs_list (H := H18) hZ3
      have kp18 := kp17.trans (Kp.same s18)
      have sr18 := sr17.of_same s18
      refine ⟨E3, _, rfl, .inl (sql_of hE3), rfl, flat_strs _, _, rfl, ite2 (fun _ => ?_) (fun _ => ?_)⟩
      · skip
        have hPq := kp18 _ _ hP12 nPa
        have hpq := hps12.kt (Kt.kp kp18 hsa12)
        refine ⟨_, rfl, .inl ⟨rfl, _, sql_of hPq⟩, _, rfl, _, rfl, (by show 2 ≤ sizeLine; decide), fun q nq => ?_⟩
        have sq := same_upd (o := .tup [V.str w, V.int n2]) nq
        have hPq2 := sq _ _ hPq
        have hq : (upd H18 q (.tup [V.str w, V.int n2])) q = some (.tup [V.str w, V.int n2]) := upd_same
        refine ⟨PL, us, _, rfl, rfl, hPq2, small1000 (by omega), ?_⟩
        have ktq : Kt (upd H18 q (.tup [V.str w, V.int n2])) (upd (upd H18 q (.tup [V.str w, V.int n2])) PL (.lst (us ++ [V.ref q]))) := Kt.upd hPq2
        have nac : c ≠ PL := hcP
        refine ⟨ps ++ [(w, n2)], us ++ [V.ref q], _, _, _, _, rfl, upd_same, ?_, fun p hp => ?_, ?_, fun b o e n1' n2' => ?_, (sr18.of_same sq).of_upd nPa.symm nac⟩
        · exact ((hpq.kt (.same sq)).kt ktq).app (.one ⟨q, rfl, ktq.tup _ _ hq⟩)
        · rcases List.mem_append.mp hp with z | z
          · exact hpok p z
          · rw [List.mem_singleton.mp z]
            exact ⟨hw, hn2⟩
        · rw [List.length_append]
          show ps.length + 1 ≤ i + 1
          omega
        · rw [upd_ne n2']
          exact sq _ _ (kp18 _ _ (k12 b o e n1' n2') n1')
      · refine ⟨_, rfl, a, c, 2, rfl, sr18, by decide, by decide, fun t4 H19 _ _ kp19 sr19 => ⟨rfl, _, rfl, ite2 (fun _ => ?_) (fun _ => ?_)⟩⟩
        · have kp129 := kp18.trans kp19
          have hPq := kp129 _ _ hP12 nPa
          have hpq := hps12.kt (Kt.kp kp129 hsa12)
          refine ⟨_, rfl, .inl ⟨rfl, _, sql_of hPq⟩, _, rfl, _, rfl, (by show 2 ≤ sizeLine; decide), fun q nq => ?_⟩
          have sq := same_upd (o := .tup [V.str w, V.int n2]) nq
          have hPq2 := sq _ _ hPq
          have hq : (upd H19 q (.tup [V.str w, V.int n2])) q = some (.tup [V.str w, V.int n2]) := upd_same
          refine ⟨PL, us, _, rfl, rfl, hPq2, small1000 (by omega), ?_⟩
          have ktq : Kt (upd H19 q (.tup [V.str w, V.int n2])) (upd (upd H19 q (.tup [V.str w, V.int n2])) PL (.lst (us ++ [V.ref q]))) := Kt.upd hPq2
          have nac : c ≠ PL := hcP
          refine ⟨ps ++ [(w, n2)], us ++ [V.ref q], _, _, _, _, rfl, upd_same, ?_, fun p hp => ?_, ?_, fun b o e n1' n2' => ?_, (sr19.of_same sq).of_upd nPa.symm nac⟩
          · exact ((hpq.kt (.same sq)).kt ktq).app (.one ⟨q, rfl, ktq.tup _ _ hq⟩)
          · rcases List.mem_append.mp hp with z | z
            · exact hpok p z
            · rw [List.mem_singleton.mp z]
              exact ⟨hw, hn2⟩
          · rw [List.length_append]
            show ps.length + 1 ≤ i + 1
            omega
          · rw [upd_ne n2']
            exact sq _ _ (kp129 _ _ (k12 b o e n1' n2') n1')
        · have kp129 := kp18.trans kp19
          exact ⟨ps, us, _, _, _, _, rfl, kp129 _ _ hP12 nPa, hps12.kt (Kt.kp kp129 hsa12), hpok, by omega, fun b o e n1' n2' => kp129 _ _ (k12 b o e n1' n2') n1', sr19⟩
    rintro σ H12 ⟨ps, us, x11, x12, x13, x14, rfl, hP12, hps12, hpok, hpl_, k12, sr12⟩
    have kt12 : Kt H10 H12 := Kt.k2 k12 hsa10 hPL (fun z => z)
    have kpF : Kp a H H12 := fun b o e n1 => k12 _ _ (kpH10 b o e n1) n1 (ne_of_none e hPLn)
    have hop12 := hop10.kt kt12
    have hmf12 := hmf10.kt kt12
    have hps4 : ps.length ≤ 4 := by omega
    have hcl : ClOk (.ru u l n0 ts ps) := ⟨hu1, hl, hnok, fun p hp => okS_st (hpok p hp).1, ⟨by omega, fun p hp => okS_rp (hpok p hp).1, fun p hp => (hpok p hp).2⟩⟩
    obtain ⟨_, hsa12⟩ := sr12.at_
    refine ⟨_, rfl, a, c, 2, rfl, sr12, by decide, by decide, fun t5 H13 _ _ kp13 sr13 => ⟨rfl, _, rfl, ite2 (fun _ => ?_) (fun _ => ?_)⟩⟩
    all_goals
      have kpG := kpF.trans kp13
      have hP13 := kp13 _ _ hP12 nPa
      have kt13 := Kt.kp kp13 hsa12
      have hps13 := hps12.kt kt13
      have hop13 := hop12.kt kt13
      have hmf13 := hmf12.kt kt13
    · refine ⟨_, rfl, PL, us, rfl, .inl (sql_of hP13), fun wl nwl => ?_⟩
      have sw := same_upd (o := .lst us) nwl
      have hwn : H wl = none := Src.free kpG sr13 nwl
      refine ⟨_, rfl, _, rfl, _, rfl, _, rfl, _, rfl, _, rfl, (by show 7 ≤ sizeLine; decide), fun t nt => ?_⟩
      have st := same_upd (o := .tup [V.str "rule", V.str u, V.str l, x, V.ref mf, V.ref PL, V.ref wl]) nt
      have sF := sw.trans st
      have hwl := st _ _ (upd_same (H := H13) (a := wl) (o := .lst us))
      refine k t wl (.ru u l n0 ts ps) _ ⟨⟨x, ⟨mf, PL, us, upd_same, hmf13.kt (.same sF), sF _ _ hP13, hps13.kt (.same sF)⟩, hop13.kt (.same sF), us, .inl hwl, hps13.kt (.same sF)⟩, hts, by omega, hnok⟩ hcl hwn (fun xs q hx hq => ?_) (kpG.trans (Kp.same sF)) (sr13.of_same sF)
      rw [upd_same] at hx
      cases hx
      simp only [List.mem_cons, List.not_mem_nil, or_false] at hq
      rcases hq with e | e | e | e | e | e | e
      · cases e
      · cases e
      · cases e
      · subst e
        have hopF := hop13.kt (.same sF)
        cases hopF with
        | form _ _ _ hf =>
          obtain ⟨dx, tq, uq, g1, _⟩ := hf
          exact .inr ⟨_, g1, trivial⟩
      · cases e
        obtain ⟨tq, uq, g1, _⟩ := hmf13.kt (.same sF)
        exact .inr ⟨_, g1, trivial⟩
      · cases e
        exact .inl hPLn
      · cases e
        exact .inl hwn
    · refine ⟨_, rfl, PL, us, rfl, .inl ⟨sql_of hP13, fun wl nwl => ?_⟩⟩
      have sw := same_upd (o := .tup us) nwl
      have hwn : H wl = none := Src.free kpG sr13 nwl
      refine ⟨_, rfl, _, rfl, _, rfl, _, rfl, _, rfl, _, rfl, (by show 7 ≤ sizeLine; decide), fun t nt => ?_⟩
      have st := same_upd (o := .tup [V.str "rule", V.str u, V.str l, x, V.ref mf, V.ref PL, V.ref wl]) nt
      have sF := sw.trans st
      have hwl := st _ _ (upd_same (H := H13) (a := wl) (o := .tup us))
      refine k t wl (.ru u l n0 ts ps) _ ⟨⟨x, ⟨mf, PL, us, upd_same, hmf13.kt (.same sF), sF _ _ hP13, hps13.kt (.same sF)⟩, hop13.kt (.same sF), us, .inr hwl, hps13.kt (.same sF)⟩, hts, by omega, hnok⟩ hcl hwn (fun xs q hx hq => ?_) (kpG.trans (Kp.same sF)) (sr13.of_same sF)
      rw [upd_same] at hx
      cases hx
      simp only [List.mem_cons, List.not_mem_nil, or_false] at hq
      rcases hq with e | e | e | e | e | e | e
      · cases e
      · cases e
      · cases e
      · subst e
        have hopF := hop13.kt (.same sF)
        cases hopF with
        | form _ _ _ hf =>
          obtain ⟨dx, tq, uq, g1, _⟩ := hf
          exact .inr ⟨_, g1, trivial⟩
      · cases e
        obtain ⟨tq, uq, g1, _⟩ := hmf13.kt (.same sF)
        exact .inr ⟨_, g1, trivial⟩
      · cases e
        exact .inl hPLn
      · cases e
        exact .inl hwn
end
end DO

namespace DO
open PySem PySem.Spec PyProof.Rows L2
section
variable {P : Program} {w : World} {K : PySem.W.Frag} {mg : Str → Option Value} {base : Heap}
/-! ### a call drawn -/
theorem free2 {H H' : Hp} {a c q : Addr} (k : Kp a H H') (s : Src H' a c) (h : H' q = none) : H q = none := Src.free k s h

abbrev sDrc : Stmt := top 62
def L10 : List V := [.str "measure", .str "turn", .str "part", .str "rule", .str "rule", .str "part", .str "measure", .str "turn", .str "back", .str "form"]
def L4 : List V := [.str "measure", .str "turn", .str "part", .str "rule"]
def labs6 : List Str := ["measure", "turn", "part", "rule", "back", "form"]
theorem l10_at {x : V} (h : x ∈ L10) : ∃ z : Str, x = .str z ∧ z ∈ labs6 := by
  unfold L10 at h
  simp only [List.mem_cons, List.not_mem_nil, or_false] at h
  rcases h with rfl | rfl | rfl | rfl | rfl | rfl | rfl | rfl | rfl | rfl
  all_goals exact ⟨_, rfl, by decide⟩
theorem l4_at {x : V} (h : x ∈ L4) : ∃ z : Str, x = .str z ∧ z ∈ labs6 := by
  unfold L4 at h
  simp only [List.mem_cons, List.not_mem_nil, or_false] at h
  rcases h with rfl | rfl | rfl | rfl
  all_goals exact ⟨_, rfl, by decide⟩
theorem dist_ac {H H' : Hp} {t : Addr} {a : Ac} (h : AcM H' (.ref t) a) (hno : a.isRu = false) : Dist H H' t := fun xs q hx hq => by
  obtain ⟨t2, ys, e, h1, h2⟩ := h
  cases e
  rw [h1] at hx
  cases hx
  cases a with
  | ru u l n ts ps => cases hno
  | me w lo hi => subst h2; simp at hq
  | tu w k => subst h2; simp at hq
  | pa w => subst h2; simp at hq
theorem scDrc : FnScope ["_law_source_here", "_law_model", "_law_names_here", "_law_favour", "_law_label", "_law_act_here"] ["_law_source_here", "_law_model", "_law_names_here", "_law_favour"] (defScope sDrc) := ⟨rfl, rfl, rfl, by decide +kernel, rfl, by decide +kernel, by decide +kernel⟩
def spDrc (C : Addr) : Sp := fun vs H Q _ => ∃ (a c m nl : Addr) (fv : Int) (as : List Ac) (ns : List (List Nat)), vs = [.ref a, .ref m, .ref nl, .int fv] ∧ 0 ≤ fv ∧ Src H a c ∧ m ≠ a ∧ nl ≠ a ∧ ActsM H m as ∧ GoodC as ∧ (∀ x ∈ as, AcOk x) ∧ H nl = some (.lst (NmL ns)) ∧ 0 < ns.length ∧ ns.length ≤ 900 ∧ (∀ ds ∈ ns, Nm ds) ∧
  ∀ t wv cl H', CallW C H' t wv cl → ClOk cl → H wv = none → Dist H H' t → Kp a H H' → Src H' a c → Q (.ref t) H'
theorem ok_drc {C : Addr} (D : Df K mg "_law_draw_call" sDrc ["_law_source_here", "_law_model", "_law_names_here", "_law_favour"]) (TT : Fk P w K mg base 2 "_law_take" sTake ["_law_source_here", "_law_many"] spTake) (AN : Fk P w K mg base 3 "_law_any" sAny ["_law_source_here", "_law_first", "_law_second"] spAny) (RC : Fk P w K mg base 8 "_law_rule_call" sRcl ["_law_source_here", "_law_model", "_law_names_here"] (spRcl C)) (SC : Fk P w K mg base 4 "_law_step_call" sScl ["_law_source_here", "_law_label", "_law_names_here"] spScl) : FnOk P w K mg base CX0 9 D.f D.fd ["_law_source_here", "_law_model", "_law_names_here", "_law_favour"] (spDrc C) := by
  refine D.fn.ok scDrc (fun vs H Q E h => ?_) (fun cdv A outer s0 H vs Q E hr h => ?_)
  · obtain ⟨a, c, m, nl, fv, as, ns, rfl, _⟩ := h
    rfl
  · obtain ⟨a, c, m, nl, fv, as, ns, rfl, hfv, sr, nma, nna, hM, hg, hao, hnl, hn0, hn1, hnm, k⟩ := h
    refine ⟨_, (pss_cons (ps_set (i := 4) scDrc.nd rfl (.inl rfl) (pe_ix ix_list (pe_lst (pa_cons pe_str (pa_cons pe_str (pa_cons pe_str (pa_cons pe_str (pa_cons pe_str (pa_cons pe_str (pa_cons pe_str (pa_cons pe_str (pa_cons pe_str (pa_cons pe_str pa_nil))))))))))) (pe_call TT.G (hr.mono (by decide)) (by rfl) TT.D.mgf TT.D.fn.kp TT.D.bd .nil pass0 (pa_cons (pv 0) (pa_cons pe_int pa_nil))) (fun _ _ => rfl)))
      (C8.pss_cut (ps_if (PW.pt (pw_and (pt_cmpR op_lt (pv 3) pe_int (nomark _)) (pw_and1 (pt_cmpR op_eq (pe_call TT.G (hr.mono (by decide)) (by rfl) TT.D.mgf TT.D.fn.kp TT.D.bd .nil pass0 (pa_cons (pv 0) (pa_cons pe_int pa_nil))) pe_int (nomark _)))))
      (pss_one (ps_set (i := 4) scDrc.nd rfl (.inl rfl) (pe_ix ix_list (pe_lst (pa_cons pe_str (pa_cons pe_str (pa_cons pe_str (pa_cons pe_str pa_nil))))) (pv 3) (fun _ _ => rfl))))
      pss_nil)
      (pss_cons (ps_if (pt_cmpR op_eq (pv 4) pe_str (nomark _))
      (pss_one (ps_ret (pe_tup (pa_cons pe_str pa_nil))))
      pss_nil)
      (pss_cons (ps_if (pt_cmpR op_eq (pv 4) pe_str (nomark _))
      (pss_one (ps_ret (pe_tup (pa_cons pe_str (pa_cons (pe_call AN.G (hr.mono (by decide)) (by rfl) AN.D.mgf AN.D.fn.kp AN.D.bd .nil pass0 (pa_cons (pv 0) (pa_cons (pe_lc (own := [("_law_act_here", 5)]) (g := gName 5) (tt := _) rfl scDrc.nd (pi_list (pv 1)) (blkOk_by (N := ["_law_source_here", "_law_model", "_law_names_here", "_law_favour", "_law_label", "_law_act_here"]) (sc := defScope sDrc) (by decide +kernel)) (fun _ _ _ _ _ => pg_name (i := 5) scDrc.nd rfl (Or.inl rfl)) (fun _ _ _ _ _ => pts_one (pt_cmpR op_eq (pe_ix (show IxR _ (rIxT K) from ix_tup) (pv 5) pe_int (fun _ _ => rfl)) pe_str (nomark _))) (fun _ _ _ _ _ => (pe_ix (show IxR _ (rIxT K) from ix_tup) (pv 5) pe_int (fun _ _ => rfl)))) (pa_cons (pe_op op_cat (pv 2) (pe_lst (pa_cons pe_str pa_nil))) pa_nil)))) pa_nil)))))
      pss_nil)
      (pss_cons (ps_if (pt_cmpR op_eq (pv 4) pe_str (nomark _))
      (pss_one (ps_ret (pe_call RC.G (hr.mono (by decide)) (by rfl) RC.D.mgf RC.D.fn.kp RC.D.bd .nil pass0 (pa_cons (pv 0) (pa_cons (pv 1) (pa_cons (pv 2) pa_nil))))))
      pss_nil)
      (pss_one (ps_ret (pe_call SC.G (hr.mono (by decide)) (by rfl) SC.D.mgf SC.D.fn.kp SC.D.bd .nil pass0 (pa_cons (pv 0) (pa_cons (pv 4) (pa_cons (pv 2) pa_nil))))))))))), ?_⟩
    have hlen := hg.len
    obtain ⟨_, hsa⟩ := sr.at_
    refine ⟨(by show 10 ≤ sizeLine; decide), fun l1 nl1 => ?_⟩
    have s1 := same_upd (o := .lst L10) nl1
    have nl1a : l1 ≠ a := (ne_of_none hsa nl1).symm
    refine ⟨_, rfl, a, c, 10, rfl, sr.of_same s1, by decide, by decide, fun t1 H1 t10 t11 kp1 sr1 => ?_⟩
    obtain ⟨x, hxm, hxe⟩ := atV_mem (l := L10) t10 t11
    obtain ⟨lab0, rfl, hlab0⟩ := l10_at hxm
    refine ⟨l1, L10, t1, _, rfl, rfl, sql_of (kp1 _ _ upd_same nl1a), hxe, ?_⟩
    have kp01 : Kp a H H1 := (Kp.same s1).trans kp1
    refine ⟨fun σ' H' => ∃ lab : Str, σ' = [some (.ref a), some (.ref m), some (.ref nl), some (.int fv), some (.str lab), none] ∧ lab ∈ labs6 ∧ Kp a H H' ∧ Src H' a c, ?_, ?_⟩
    · refine ⟨_, rfl, _, _, rfl, rfl, _, rfl, ite2 (fun e => ⟨_, rfl, a, c, 2, rfl, sr1, by decide, by decide, fun t2 H2 _ _ kp2 sr2 => ⟨rfl, _, rfl, ite2 (fun _ => ?_) (fun _ => ⟨lab0, rfl, hlab0, kp01.trans kp2, sr2⟩)⟩⟩) (fun _ => ⟨lab0, rfl, hlab0, kp01, sr1⟩)⟩
      have hf4 : fv < 4 := of_decide_eq_true e
      refine ⟨(by show 4 ≤ sizeLine; decide), fun l2 nl2 => ?_⟩
      have s2 := same_upd (o := .lst L4) nl2
      obtain ⟨x, hxm, hxe⟩ := atV_mem (l := L4) hfv (show fv < 4 from hf4)
      obtain ⟨lab, rfl, hlab⟩ := l4_at hxm
      exact ⟨_, rfl, l2, L4, fv, _, rfl, rfl, sql_of upd_same, hxe, lab, rfl, hlab, (kp01.trans kp2).trans (Kp.same s2), sr2.of_same s2⟩
    rintro σ' H2 ⟨lab, rfl, hlab, kp2, sr2⟩
    have hcase : lab = Str.ofString "back" ∨ lab = Str.ofString "form" ∨ lab = Str.ofString "rule" ∨ lab ∈ (["measure", "turn", "part"] : List Str) := by
      unfold labs6 at hlab
      simp only [List.mem_cons, List.not_mem_nil, or_false] at hlab
      rcases hlab with rfl | rfl | rfl | rfl | rfl | rfl
      · exact .inr (.inr (.inr (by decide)))
      · exact .inr (.inr (.inr (by decide)))
      · exact .inr (.inr (.inr (by decide)))
      · exact .inr (.inr (.inl rfl))
      · exact .inl rfl
      · exact .inr (.inl rfl)
    rcases hcase with rfl | rfl | rfl | hlab3
    · refine ⟨_, rfl, rfl, _, rfl, iteT' (by decide) ?_⟩
      refine ⟨(by show 1 ≤ sizeLine; decide), fun t nt => ?_⟩
      have st := same_upd (o := .tup [V.str "back"]) nt
      refine k t t .ba _ upd_same trivial (Src.free kp2 sr2 nt) (fun xs q hx hq => ?_) (kp2.trans (Kp.same st)) (sr2.of_same st)
      rw [upd_same] at hx
      cases hx
      simp at hq
    · refine ⟨_, rfl, rfl, _, rfl, iteF' (by decide) ?_⟩
      refine ⟨_, rfl, rfl, _, rfl, iteT' (by decide) ?_⟩
      have hM2 := hM.kp kp2 hsa nma
      obtain ⟨⟨ms, hm2, hMA2⟩, _⟩ := id hM2
      have hml := hMA2.len
      have hnl2 := kp2 _ _ hnl nna
      obtain ⟨_, hsa2⟩ := sr2.at_
      refine ⟨_, rfl, _, rfl, m, rfl, ⟨_, sql_of hm2⟩, fun Y nY => ?_⟩
      have nYa : Y ≠ a := (ne_of_none hsa2 nY).symm
      refine lc_pick walk_list as (fun x => (meP x).map (·.1)) (fun _ v (z : Str) => v = .str z) (fun _ _ _ _ _ z => z) nY (fun H2 s2 => sql_of (s2 _ _ hm2)) hml (by omega) (fun i x d H5 Yes No hx hd s5 hYes hNo => ?_) (fun H3 zs hY hZ s3 => ?_)
      · obtain ⟨d', hd', hxd⟩ := hMA2.at_ hx
        obtain rfl : d' = d := Option.some.inj (hd'.symm.trans hd)
        have hx2 := hxd.kt (.same s5)
        obtain ⟨t, ws, rfl, ht, _⟩ := hx2.lab
        refine ⟨rfl, _, rfl, t, _, 0, .str d'.lab, rfl, rfl, sql_ofT ht, at0, rfl, _, rfl, ite2 (fun e => ?_) (fun e => ?_)⟩
        · obtain ⟨w', lo, hi, rfl⟩ := lab_me e
          obtain ⟨t', xs', e', h1, rfl⟩ := hx2
          cases e'
          exact ⟨_, rfl, t, _, 1, .str w', rfl, rfl, sql_ofT h1, at1, hYes _ _ w' rfl (.refl _) rfl⟩
        · exact hNo _ (by rw [not_me e]; rfl) (.refl _)
      obtain rfl := strs_list (H := H3) hZ
      have hzl : (as.filterMap (fun x => (meP x).map (·.1))).length ≤ as.length := List.length_filterMap_le _ _
      have hnl3 := s3 _ _ hnl2
      refine ⟨_, rfl, (by show 1 ≤ sizeLine; decide), fun lf nlf => ?_⟩
      have slf := same_upd (o := .lst [V.str "frame"]) nlf
      refine ⟨nl, lf, _, _, rfl, rfl, slf _ _ hnl3, upd_same, sz16 (by rw [nml_len]; show _ + 1 ≤ 1000; omega), fun lg nlg => ?_⟩
      have slg := same_upd (o := .lst (NmL ns ++ [V.str "frame"])) nlg
      have s35 := slf.trans slg
      have sr5 := (sr2.of_same s3).of_same s35
      obtain ⟨_, hsa3⟩ := (sr2.of_same s3).at_
      refine ⟨a, c, Y, lg, _, _, rfl, sr5, nYa, (ne_of_none (slf _ _ hsa3) nlg).symm, s35 _ _ hY, upd_same, by rw [List.length_append, nml_len]; omega, by rw [List.length_map]; omega, by rw [List.length_append, nml_len]; show ns.length + 1 ≤ 1000; omega, fun xw H6 hxw kp6 sr6 => ?_⟩
      obtain ⟨z, rfl, hz1, hz2⟩ : ∃ z : Str, xw = .str z ∧ PyData.strOk z = true ∧ z.cps.toList.length ≤ 900 := by
        rcases hxw with h | h
        · obtain ⟨z, hz, rfl⟩ := List.mem_map.mp h
          obtain ⟨y, hy, e⟩ := List.mem_filterMap.mp hz
          cases y with
          | me w lo hi =>
            cases e
            exact ⟨w, rfl, (hao _ hy).1, okS_len (hg.me _ _ _ hy).1⟩
          | _ => cases e
        · rcases List.mem_append.mp h with h | h
          · exact nm_word hnm h
          · rw [List.mem_singleton.mp h]
            exact ⟨_, rfl, by decide +kernel, by decide⟩
      refine ⟨(by show 2 ≤ sizeLine; decide), fun t nt => ?_⟩
      have kp6' : Kp a H H6 := kp2.trans ((Kp.same (s3.trans s35)).trans kp6)
      have st := same_upd (o := .tup [V.str "form", V.str z]) nt
      refine k t t (.fo z) _ ⟨upd_same, hz2⟩ hz1 (Src.free kp6' sr6 nt) (fun xs q hx hq => ?_) (kp6'.trans (Kp.same st)) (sr6.of_same st)
      rw [upd_same] at hx
      cases hx
      simp at hq
    · refine ⟨_, rfl, rfl, _, rfl, iteF' (by decide) ?_⟩
      refine ⟨_, rfl, rfl, _, rfl, iteF' (by decide) ?_⟩
      refine ⟨_, rfl, rfl, _, rfl, iteT' (by decide) ?_⟩
      refine ⟨_, rfl, _, rfl, _, rfl, a, c, m, nl, as, ns, rfl, sr2, nma, nna, hM.kp kp2 hsa nma, hg, hao, kp2 _ _ hnl nna, hn0, hn1, hnm, fun t wv cl H3 hcw hcl hwn hdi kp3 sr3 => ?_⟩
      refine k t wv cl H3 hcw hcl (free2 kp2 sr2 hwn) (fun xs q hx hq => (hdi xs q hx hq).imp (fun z => free2 kp2 sr2 z) id) (kp2.trans kp3) sr3
    · have hne : ∀ kd : Str, kd ∉ (["measure", "turn", "part"] : List Str) → decide (V.str lab = V.str kd) = false := fun kd hk => decide_eq_false fun z => hk (by rw [← V.str.inj z]; exact hlab3)
      refine ⟨_, rfl, rfl, _, rfl, iteF' (hne _ (by decide)) ?_⟩
      refine ⟨_, rfl, rfl, _, rfl, iteF' (hne _ (by decide)) ?_⟩
      refine ⟨_, rfl, rfl, _, rfl, iteF' (hne _ (by decide)) ?_⟩
      refine ⟨_, rfl, _, rfl, _, rfl, a, c, nl, lab, ns, rfl, sr2, nna, kp2 _ _ hnl nna, hn0, hn1, hnm, hlab3, fun t H3 ac hnt kp3 sr3 hac hno hok hst hlz => ?_⟩
      exact k t t (.st ac) H3 ⟨hac, hno, hlz⟩ ⟨hok, hst⟩ (free2 kp2 sr2 hnt) (dist_ac hac hno) (kp2.trans kp3) sr3
end
end DO

namespace DO
open PySem PySem.Spec PyProof.Rows L2
section
variable {P : Program} {w : World} {K : PySem.W.Frag} {mg : Str → Option Value} {base : Heap}
/-! ### the beginning of a card -/
abbrev sBeg : Stmt := top 63
/-- an item of the beginning: a call, and the lists that stand in it -/
def BI (C : Addr) (H : Hp) (x : V) (ms : List Addr) : Prop := ∃ t cl, x = .ref t ∧ ClOk cl ∧ (∃ xs, H t = some (.tup xs) ∧ ∀ q, V.ref q ∈ xs → q ∈ ms ∨ ∃ o, H q = some o ∧ Fx o) ∧ ((ms = [] ∧ ∀ wv, CallW C H t wv cl) ∨ ∃ pl wv, ms = [pl, wv] ∧ (∃ us, H pl = some (.lst us)) ∧ (∃ us, H wv = some (.lst us)) ∧ CallW C H t wv cl)
theorem CallW.mono {C : Addr} {H H' : Hp} {t wv : Addr} {cl : Cl} (h : CallW C H t wv cl) (k : Kt H H') (kq : ∀ xs q, H t = some (.tup xs) → V.ref q ∈ xs → ∀ o, H q = some o → H' q = some o) : CallW C H' t wv cl := by
  cases cl with
  | st a => exact ⟨h.1.kt k, h.2⟩
  | ru u l n ts ps =>
    obtain ⟨⟨x, ⟨m, pl, us, h1, h2, h3, h4⟩, h5, us2, h6, h7⟩, hr⟩ := h
    have n1 := kq _ pl h1 (by simp)
    have n2 := kq _ wv h1 (by simp)
    exact ⟨⟨x, ⟨m, pl, us, k.tup _ _ h1, h2.kt k, n1 _ h3, h4.kt k⟩, h5.kt k, us2, h6.imp (n2 _) (n2 _), h7.kt k⟩, hr⟩
  | ba => exact k.tup _ _ h
  | fo z => exact ⟨k.tup _ _ h.1, h.2⟩
theorem BI.mono {C : Addr} {H H' : Hp} {x : V} {ms : List Addr} (h : BI C H x ms) (k : Kt H H') (km : ∀ q ∈ ms, ∀ o, H q = some o → H' q = some o) : BI C H' x ms := by
  obtain ⟨t, cl, e, hc, ⟨xs, hx, hq⟩, hw⟩ := h
  have kq : ∀ ys q, H t = some (.tup ys) → V.ref q ∈ ys → ∀ o, H q = some o → H' q = some o := fun ys q hy hyq o ho => by
    rw [hx] at hy
    cases hy
    rcases hq q hyq with z | ⟨o', h1, h2⟩
    · exact km q z o ho
    · rw [h1] at ho
      cases ho
      exact k _ _ h1 h2
  refine ⟨t, cl, e, hc, ⟨xs, k.tup _ _ hx, fun q hx' => (hq q hx').imp id fun ⟨o, h1, h2⟩ => ⟨o, k _ _ h1 h2, h2⟩⟩, ?_⟩
  rcases hw with ⟨e1, h1⟩ | ⟨pl, wv, rfl, ⟨us, h1⟩, ⟨us2, h2⟩, h3⟩
  · exact .inl ⟨e1, fun wv => (h1 wv).mono k kq⟩
  · exact .inr ⟨pl, wv, rfl, ⟨us, km pl (by simp) _ h1⟩, ⟨us2, km wv (by simp) _ h2⟩, h3.mono k kq⟩
theorem All2.monoM {α β : Type} {R S : α → β → Prop} {xs : List α} {ys : List β} (h : All2 R xs ys) : (∀ x y, y ∈ ys → R x y → S x y) → All2 S xs ys := by
  induction h with
  | nil => exact fun _ => .nil
  | cons a _ ih => exact fun k => .cons (k _ _ List.mem_cons_self a) (ih fun x y hy => k x y (List.mem_cons_of_mem _ hy))
theorem atI_lastQ {α : Type} {l : List α} {x : α} (h : l.getLast? = some x) : atI l (-1) = some x := by
  obtain ⟨ys, rfl⟩ := List.getLast?_eq_some_iff.mp h
  exact atI_last ys x
def StOk (a : Ac) : Prop := a.isRu = false ∧ AcOk a ∧ PyData.strOk a.nm = true ∧ a.nm.cps.toList.length ≤ 900
theorem bi_st {C : Addr} {H : Hp} {x : V} {a : Ac} (h : AcM H x a) (ho : StOk a) : BI C H x [] := by
  obtain ⟨t, xs, rfl, h1, h2⟩ := id h
  refine ⟨t, .st a, rfl, ⟨ho.2.1, ho.2.2.1⟩, ⟨xs, h1, fun q hq => ?_⟩, .inl ⟨rfl, fun wv => ⟨h, ho.1, ho.2.2.2⟩⟩⟩
  cases a with
  | ru u l n ts ps => cases ho.1
  | me w lo hi => subst h2; simp at hq
  | tu w k => subst h2; simp at hq
  | pa w => subst h2; simp at hq
theorem bi_all {C : Addr} {H : Hp} {xs : List V} {as : List Ac} (h : MAll H xs as) : (∀ b ∈ as, StOk b) → All2 (BI C H) xs (as.map fun _ => []) := by
  induction h with
  | nil => exact fun _ => .nil
  | cons h1 _ ih => exact fun hok => .cons (bi_st h1 (hok _ List.mem_cons_self)) (ih fun b hb => hok b (List.mem_cons_of_mem _ hb))
theorem Kp.into {a l : Addr} {H0 H : Hp} {o : HO} (k : Kp a H0 H) (hl : H0 l = none) : Kp a H0 (L2.upd H l o) := fun b u h n => by
  rw [upd_ne (ne_of_none h hl)]
  exact k b u h n
def Apart : List (List Addr) → Prop := List.Pairwise fun a b => ∀ q ∈ a, q ∉ b
/-- the calls, as they stand -/
structure Beg (C : Addr) (H0 H : Hp) (l : Addr) (xs : List V) (mss : List (List Addr)) : Prop where
  at_ : H l = some (.lst xs)
  bi : All2 (BI C H) xs mss
  ap : Apart mss
  fr : ∀ ms ∈ mss, ∀ q ∈ ms, H0 q = none ∧ H q ≠ none ∧ q ≠ l
theorem Beg.kp {C : Addr} {H0 H H' : Hp} {l a : Addr} {xs zs : List V} {mss : List (List Addr)} (h : Beg C H0 H l xs mss) (k : Kp a H H') (ha : H a = some (.lst zs)) (h0 : H0 a ≠ none) (nla : l ≠ a) : Beg C H0 H' l xs mss := by
  have na : ∀ ms ∈ mss, ∀ q ∈ ms, q ≠ a := fun ms hm q hq e => h0 (by rw [← e]; exact (h.fr ms hm q hq).1)
  refine ⟨k _ _ h.at_ nla, h.bi.monoM fun x ms hm hb => hb.mono (Kt.kp k ha) fun q hq o ho => k _ _ ho (na ms hm q hq), h.ap, fun ms hm q hq => ?_⟩
  obtain ⟨h1, h2, h3⟩ := h.fr ms hm q hq
  refine ⟨h1, ?_, h3⟩
  cases e : H q with
  | none => exact absurd e h2
  | some o => rw [k _ _ e (na ms hm q hq)]; exact fun z => nomatch z
theorem Beg.push {C : Addr} {H0 H H1 : Hp} {l : Addr} {xs : List V} {mss : List (List Addr)} {x : V} {ms : List Addr} (h : Beg C H0 H l xs mss) (s : Same H H1) (hb : BI C H1 x ms) (hf : ∀ q ∈ ms, H0 q = none ∧ H1 q ≠ none ∧ H q = none) : Beg C H0 (upd H1 l (.lst (xs ++ [x]))) l (xs ++ [x]) (mss ++ [ms]) := by
  have kt1 : Kt H1 (upd H1 l (.lst (xs ++ [x]))) := Kt.upd (s _ _ h.at_)
  have nl1 : ∀ q ∈ ms, q ≠ l := fun q hq e => by
    have := (hf q hq).2.2
    rw [e, h.at_] at this
    cases this
  refine ⟨upd_same, (h.bi.monoM fun y ns hn hy => (hy.mono (.same s) fun q _ o ho => s _ _ ho).mono kt1 fun q hq o ho => ?_).app (.one (hb.mono kt1 fun q hq o ho => ?_)), ?_, fun ns hn q hq => ?_⟩
  · rw [upd_ne (h.fr ns hn q hq).2.2]
    exact ho
  · rw [upd_ne (nl1 q hq)]
    exact ho
  · refine List.pairwise_append.mpr ⟨h.ap, List.pairwise_singleton _ _, fun a ha b hb' q hq hq' => ?_⟩
    rw [List.mem_singleton.mp hb'] at hq'
    exact (h.fr a ha q hq).2.1 (hf q hq').2.2
  · rcases List.mem_append.mp hn with z | z
    · obtain ⟨h1, h2, h3⟩ := h.fr ns z q hq
      refine ⟨h1, ?_, h3⟩
      rw [upd_ne h3]
      cases e : H q with
      | none => exact absurd e h2
      | some o => rw [s _ _ e]; exact fun z => nomatch z
    · rw [List.mem_singleton.mp z] at hq
      refine ⟨(hf q hq).1, ?_, nl1 q hq⟩
      rw [upd_ne (nl1 q hq)]
      exact (hf q hq).2.1
theorem scBeg : FnScope ["_law_source_here", "_law_names_here", "_law_calls", "_law_k", "_law_floor", "_law_last", "_law_ends"] ["_law_source_here", "_law_names_here"] (defScope sBeg) := ⟨rfl, rfl, rfl, by decide +kernel, rfl, by decide +kernel, by decide +kernel⟩
def spBeg (C : Addr) : Sp := fun vs H Q _ => ∃ (a c nl : Addr) (ns : List (List Nat)), vs = [.ref a, .ref nl] ∧ Src H a c ∧ nl ≠ a ∧ H nl = some (.lst (NmL ns)) ∧ 16 ≤ ns.length ∧ ns.length ≤ 900 ∧ (∀ ds ∈ ns, Nm ds) ∧
  ∀ l H' xs mss, H l = none → Kp a H H' → Src H' a c → Beg C H H' l xs mss → xs.length ≤ 200 → Q (.ref l) H'
theorem ok_beg {C : Addr} (D : Df K mg "_law_beginning" sBeg ["_law_source_here", "_law_names_here"]) (TT : Fk P w K mg base 2 "_law_take" sTake ["_law_source_here", "_law_many"] spTake) (NU : Fk P w K mg base 3 "_law_number" sNumber ["_law_source_here"] spNumber) (mr : mg "range" = none) (mln : mg "len" = none) (mi : mg "int" = none) : FnOk P w K mg base CX0 4 D.f D.fd ["_law_source_here", "_law_names_here"] (spBeg C) := by
  refine D.fn.ok scBeg (fun vs H Q E h => ?_) (fun cdv A outer s0 H vs Q E hr h => ?_)
  · obtain ⟨a, c, nl, ns, rfl, _⟩ := h
    rfl
  · obtain ⟨a, c, nl, ns, rfl, sr, nna, hnl, hn16, hn1, hnm, k⟩ := h
    refine ⟨_, (pss_cons (ps_set (i := 2) scBeg.nd rfl (.inl rfl) (pe_lst pa_nil))
      (pss_cons (ps_for PassesOwn.never rfl (pi_range1 rfl mr (pa_cons (pe_call TT.G (hr.mono (by decide)) (by rfl) TT.D.mgf TT.D.fn.kp TT.D.bd .nil pass0 (pa_cons (pv 0) (pa_cons pe_int pa_nil))) pa_nil)) (pg_name (i := 3) scBeg.nd rfl (Or.inl rfl))
      (pss_cons (ps_set (i := 4) scBeg.nd rfl (.inl rfl) (pe_call NU.G (hr.mono (by decide)) (by rfl) NU.D.mgf NU.D.fn.kp NU.D.bd .nil pass0 (pa_cons (pv 0) pa_nil)))
      (pss_one (ps_expr (pe_bm PySem.F.plainAttrs_list PySem.F.slot_list_append PySem.F.type_list_append mt_append (pv 2) (pa_cons (pe_tup (pa_cons pe_str (pa_cons (pe_ix ix_list (pv 1) (pe_callB call_len_seq (by rfl) mln PySem.boot_len (pa_cons (pv 2) pa_nil)) (fun _ _ => rfl)) (pa_cons (pv 4) (pa_cons (pe_op op_addL (pv 4) (pv 3)) pa_nil))))) pa_nil))))))
      (pss_cons (ps_for PassesOwn.never rfl (pi_range1 rfl mr (pa_cons (pe_call TT.G (hr.mono (by decide)) (by rfl) TT.D.mgf TT.D.fn.kp TT.D.bd .nil pass0 (pa_cons (pv 0) (pa_cons pe_int pa_nil))) pa_nil)) (pg_name (i := 3) scBeg.nd rfl (Or.inl rfl))
      (pss_one (ps_expr (pe_bm PySem.F.plainAttrs_list PySem.F.slot_list_append PySem.F.type_list_append mt_append (pv 2) (pa_cons (pe_tup (pa_cons pe_str (pa_cons (pe_ix ix_list (pv 1) (pe_callB call_len_seq (by rfl) mln PySem.boot_len (pa_cons (pv 2) pa_nil)) (fun _ _ => rfl)) (pa_cons (pe_op op_addL pe_int (pe_call TT.G (hr.mono (by decide)) (by rfl) TT.D.mgf TT.D.fn.kp TT.D.bd .nil pass0 (pa_cons (pv 0) (pa_cons pe_int pa_nil)))) pa_nil)))) pa_nil)))))
      (pss_cons (ps_for PassesOwn.never rfl (pi_range1 rfl mr (pa_cons (pe_call TT.G (hr.mono (by decide)) (by rfl) TT.D.mgf TT.D.fn.kp TT.D.bd .nil pass0 (pa_cons (pv 0) (pa_cons pe_int pa_nil))) pa_nil)) (pg_name (i := 3) scBeg.nd rfl (Or.inl rfl))
      (pss_one (ps_expr (pe_bm PySem.F.plainAttrs_list PySem.F.slot_list_append PySem.F.type_list_append mt_append (pv 2) (pa_cons (pe_tup (pa_cons pe_str (pa_cons (pe_ix ix_list (pv 1) (pe_callB call_len_seq (by rfl) mln PySem.boot_len (pa_cons (pv 2) pa_nil)) (fun _ _ => rfl)) pa_nil))) pa_nil)))))
      (C8.pss_cut (ps_set (i := 5) scBeg.nd rfl (.inl rfl) (pe_ifExp (PW.pt (pw_and (pt_cmpR op_gt (pe_callB call_len_seq (by rfl) mln PySem.boot_len (pa_cons (pv 2) pa_nil)) pe_int (nomark _)) (pw_and1 (pt_cmpR op_eq (pe_ix (show IxR _ (rIxT K) from ix_tup) (pe_ix ix_list (pv 2) (pe_un un_neg pe_int) (fun _ _ => rfl)) pe_int (fun _ _ => rfl)) pe_str (nomark _))))) (pe_ix (show IxR _ (rIxT K) from ix_tup) (pe_ix ix_list (pv 2) (pe_un un_neg pe_int) (fun _ _ => rfl)) pe_int (fun _ _ => rfl)) pe_str))
      (C8.pss_cut (ps_if (PW.pt (pw_and (pt_cmpR op_eq (pe_call TT.G (hr.mono (by decide)) (by rfl) TT.D.mgf TT.D.fn.kp TT.D.bd .nil pass0 (pa_cons (pv 0) (pa_cons pe_int pa_nil))) pe_int (nomark _)) (pw_and1 (pt_cmpR op_ne (pv 5) pe_str (nomark _)))))
      (pss_one (ps_for PassesOwn.never rfl (pi_range1 rfl mr (pa_cons (pe_op op_addL pe_int (pe_call TT.G (hr.mono (by decide)) (by rfl) TT.D.mgf TT.D.fn.kp TT.D.bd .nil pass0 (pa_cons (pv 0) (pa_cons pe_int pa_nil)))) pa_nil)) (pg_name (i := 3) scBeg.nd rfl (Or.inl rfl))
      (C8.pss_cut (ps_set (i := 6) scBeg.nd rfl (.inl rfl) (pe_ifExp (PW.pt (pw_or (pt_cmpR op_eq (pv 3) pe_int (nomark _)) (pw_or1 (pt_cmpR op_gt (pe_op op_modL (pe_callTy call_int1L (by rfl) mi (by decide +kernel) (pa_cons (pv 3) pa_nil)) pe_int) pe_int (nomark _))))) (pe_tup (pa_cons (pv 5) (pa_cons pe_str pa_nil))) (pe_tup (pa_cons pe_str (pa_cons (pv 5) pa_nil))))) (pss_one (ps_expr (pe_bm PySem.F.plainAttrs_list PySem.F.slot_list_append PySem.F.type_list_append mt_append (pv 2) (pa_cons (pe_tup (pa_cons pe_str (pa_cons (pe_ix (show IxR _ (rIxT K) from ix_tup) (pv 6) pe_int (fun _ _ => rfl)) (pa_cons (pe_ix (show IxR _ (rIxT K) from ix_tup) (pv 6) pe_int (fun _ _ => rfl)) (pa_cons (pv 3) (pa_cons (pe_tup (pa_cons (pv 3) (pa_cons (pe_tup pa_nil) pa_nil))) (pa_cons (pe_lst pa_nil) (pa_cons (pe_lst pa_nil) pa_nil)))))))) pa_nil)))))))
      pss_nil)
      (pss_one (ps_ret (pv 2))))))))), ?_⟩
    obtain ⟨_, hsa⟩ := sr.at_
    have hln := nml_len ns
    refine ⟨(by show 0 ≤ sizeLine; decide), fun l nl0 => ?_⟩
    have s0' := same_upd (o := .lst []) nl0
    have hl0 : (upd H l (.lst [])) l = some (.lst []) := upd_same
    have kp0 : Kp a H (upd H l (.lst [])) := Kp.same s0'
    have sr0 := sr.of_same s0'
    have nla : l ≠ a := (ne_of_none hsa nl0).symm
    have nln : l ≠ nl := (ne_of_none hnl nl0).symm
    generalize (upd H l (.lst [])) = H0 at s0' hl0 kp0 sr0
    have lc : ∀ {G : Hp} {xs : List V}, Src G a c → G l = some (.lst xs) → Kp a H G → c ≠ l := fun {G xs} g hg kg z => by
      obtain ⟨_, _, _, _, _, hcc, _⟩ := id sr
      subst z
      rw [nl0] at hcc
      cases hcc
    have word : ∀ (j : Nat), j < 16 → ∃ (x : V) (w : Str), x = .str w ∧ atI (NmL ns) (j : Int) = some x ∧ PyData.strOk w = true ∧ w.cps.toList.length ≤ 900 := fun j hj => by
      obtain ⟨x, hxm, hxe⟩ := atV_mem (l := NmL ns) (i := (j : Int)) (by omega) (by omega)
      obtain ⟨w, rfl, h1, h2⟩ := nm_word hnm hxm
      exact ⟨_, w, rfl, hxe, h1, h2⟩
    have push : ∀ {G : Hp} {xs : List V} {as : List Ac} {t : Addr} {zs : List V} {b : Ac}, G t = none → G l = some (.lst xs) → MAll G xs as → (AcM (upd G t (.tup zs)) (.ref t) b) → MAll (upd (upd G t (.tup zs)) l (.lst (xs ++ [.ref t]))) (xs ++ [.ref t]) (as ++ [b]) := fun {G xs as t zs b} nt hl hM hb => by
      have kt1 : Kt (upd G t (.tup zs)) (upd (upd G t (.tup zs)) l (.lst (xs ++ [.ref t]))) := Kt.upd (same_upd nt _ _ hl)
      exact ((hM.kt (.same (same_upd nt))).kt kt1).app (.one (hb.kt kt1))
    refine ⟨_, rfl, a, c, 7, rfl, sr0, by decide, by decide, fun k1 H1 k10 k11 kp1 sr1 => ⟨k1, rfl, by omega, by omega, for_range (lo := 0) (n := k1.toNat) (fun i σ G => ∃ xs as x3 x4, σ = [some (.ref a), some (.ref nl), some (.ref l), x3, x4, none, none] ∧ G l = some (.lst xs) ∧ MAll G xs as ∧ (∀ b ∈ as, StOk b) ∧ as.length = i ∧ Kp a H G ∧ Src G a c) ⟨[], [], none, none, rfl, kp1 _ _ hl0 nla, .nil, fun _ z => by simp at z, rfl, kp0.trans kp1, sr1⟩ ?_ ?_⟩⟩
    · rintro i σ G hi ⟨xs, as, x3, x4, rfl, hl, hM, hok, hlen, kp, sr2⟩
      have hxl := hM.len
      obtain ⟨x, w1, rfl, hxe, hw1, hw2⟩ := word xs.length (by omega)
      refine ⟨_, rfl, a, c, rfl, sr2, fun fl G1 bfl kp2 sr3 => ?_⟩
      have kp3 := kp.trans kp2
      have hl3 := kp2 _ _ hl nla
      obtain ⟨_, hsg⟩ := sr2.at_
      have hM3 := hM.kt (Kt.kp kp2 hsg)
      refine ⟨_, rfl, .inl ⟨rfl, _, sql_of hl3⟩, _, rfl, _, rfl, l, xs, rfl, .inl (sql_of hl3), nl, NmL ns, _, _, rfl, rfl, sql_of (kp3 _ _ hnl nna), hxe, _, rfl, _, rfl, _, rfl, _, _, rfl, rfl, fun r er => ⟨(by show 4 ≤ sizeLine; decide), fun t nt => ?_⟩⟩
      have st := same_upd (o := .tup [V.str "measure", V.str w1, V.int fl, V.int r]) nt
      refine ⟨l, xs, _, rfl, rfl, st _ _ hl3, small1000 (by omega), xs ++ [.ref t], as ++ [.me w1 fl r], _, _, rfl, upd_same, push nt hl3 hM3 ⟨t, _, rfl, upd_same, rfl⟩, fun b hb => ?_, by rw [List.length_append, hlen]; rfl, (kp3.trans (Kp.same st)).into nl0, (sr3.of_same st).of_upd nla.symm (lc sr3 hl3 kp3)⟩
      rcases List.mem_append.mp hb with z | z
      · exact hok b z
      · rw [List.mem_singleton.mp z]
        exact ⟨rfl, ⟨hw1, by omega, by omega⟩, hw1, hw2⟩
    rintro σ G ⟨xs, as, x3, x4, rfl, hl, hM, hok, hlen, kp, sr2⟩
    have hlen6 : as.length ≤ 6 := by omega
    refine ⟨_, rfl, a, c, 4, rfl, sr2, by decide, by decide, fun k2 H2 k20 k21 kp2 sr3 => ⟨k2, rfl, by omega, by omega, for_range (lo := 0) (n := k2.toNat) (fun i σ G => ∃ xs as x3 x4, σ = [some (.ref a), some (.ref nl), some (.ref l), x3, x4, none, none] ∧ G l = some (.lst xs) ∧ MAll G xs as ∧ (∀ b ∈ as, StOk b) ∧ as.length ≤ 6 + i ∧ Kp a H G ∧ Src G a c) ⟨xs, as, _, _, rfl, kp2 _ _ hl nla, hM.kt (Kt.kp kp2 sr2.at_.choose_spec), hok, hlen6, kp.trans kp2, sr3⟩ ?_ ?_⟩⟩
    · clear hl hM hok hlen kp sr2 hlen6 kp2 sr3 xs as x3 x4
      rintro i σ G hi ⟨xs, as, x3, x4, rfl, hl, hM, hok, hlen, kp, sr2⟩
      have hxl := hM.len
      obtain ⟨x, w1, rfl, hxe, hw1, hw2⟩ := word xs.length (by omega)
      refine ⟨_, rfl, .inl ⟨rfl, _, sql_of hl⟩, _, rfl, _, rfl, l, xs, rfl, .inl (sql_of hl), nl, NmL ns, _, _, rfl, rfl, sql_of (kp _ _ hnl nna), hxe, _, rfl, a, c, 9, rfl, sr2, by decide, by decide, fun d G1 d0 d1 kp2 sr3 => ⟨_, _, rfl, rfl, fun r er => ⟨(by show 3 ≤ sizeLine; decide), fun t nt => ?_⟩⟩⟩
      have kp3 := kp.trans kp2
      have hl3 := kp2 _ _ hl nla
      have hM3 := hM.kt (Kt.kp kp2 sr2.at_.choose_spec)
      have st := same_upd (o := .tup [V.str "turn", V.str w1, V.int r]) nt
      refine ⟨l, xs, _, rfl, rfl, st _ _ hl3, small1000 (by omega), xs ++ [.ref t], as ++ [.tu w1 r], _, _, rfl, upd_same, push nt hl3 hM3 ⟨t, _, rfl, upd_same, rfl⟩, fun b hb => ?_, by rw [List.length_append]; show as.length + 1 ≤ _; omega, (kp3.trans (Kp.same st)).into nl0, (sr3.of_same st).of_upd nla.symm (lc sr3 hl3 kp3)⟩
      rcases List.mem_append.mp hb with z | z
      · exact hok b z
      · rw [List.mem_singleton.mp z]
        exact ⟨rfl, ⟨hw1, by omega⟩, hw1, hw2⟩
    clear hl hM hok hlen kp sr2 hlen6 kp2 sr3 xs as x3 x4
    rintro σ G ⟨xs, as, x3, x4, rfl, hl, hM, hok, hlen, kp, sr2⟩
    have hlen9 : as.length ≤ 9 := by omega
    refine ⟨_, rfl, a, c, 7, rfl, sr2, by decide, by decide, fun k3 H3 k30 k31 kp2 sr3 => ⟨k3, rfl, by omega, by omega, for_range (lo := 0) (n := k3.toNat) (fun i σ G => ∃ xs as x3 x4, σ = [some (.ref a), some (.ref nl), some (.ref l), x3, x4, none, none] ∧ G l = some (.lst xs) ∧ MAll G xs as ∧ (∀ b ∈ as, StOk b) ∧ as.length ≤ 9 + i ∧ Kp a H G ∧ Src G a c) ⟨xs, as, _, _, rfl, kp2 _ _ hl nla, hM.kt (Kt.kp kp2 sr2.at_.choose_spec), hok, hlen9, kp.trans kp2, sr3⟩ ?_ ?_⟩⟩
    · clear hl hM hok hlen kp sr2 hlen9 kp2 sr3 xs as x3 x4
      rintro i σ G hi ⟨xs, as, x3, x4, rfl, hl, hM, hok, hlen, kp, sr2⟩
      have hxl := hM.len
      obtain ⟨x, w1, rfl, hxe, hw1, hw2⟩ := word xs.length (by omega)
      refine ⟨_, rfl, .inl ⟨rfl, _, sql_of hl⟩, _, rfl, _, rfl, l, xs, rfl, .inl (sql_of hl), nl, NmL ns, _, _, rfl, rfl, sql_of (kp _ _ hnl nna), hxe, (by show 2 ≤ sizeLine; decide), fun t nt => ?_⟩
      have st := same_upd (o := .tup [V.str "part", V.str w1]) nt
      refine ⟨l, xs, _, rfl, rfl, st _ _ hl, small1000 (by omega), xs ++ [.ref t], as ++ [.pa w1], _, _, rfl, upd_same, push nt hl hM ⟨t, _, rfl, upd_same, rfl⟩, fun b hb => ?_, by rw [List.length_append]; show as.length + 1 ≤ _; omega, (kp.trans (Kp.same st)).into nl0, (sr2.of_same st).of_upd nla.symm (lc sr2 hl kp)⟩
      rcases List.mem_append.mp hb with z | z
      · exact hok b z
      · rw [List.mem_singleton.mp z]
        exact ⟨rfl, hw1, hw1, hw2⟩
    clear hl hM hok hlen kp sr2 hlen9 kp2 sr3 xs as x3 x4
    rintro σ G ⟨xs, as, x3, x4, rfl, hl, hM, hok, hlen, kp, sr2⟩
    have hlen15 : as.length ≤ 15 := by omega
    have hxl := hM.len
    refine ⟨fun σ' H' => ∃ z : Str, σ' = [some (.ref a), some (.ref nl), some (.ref l), x3, x4, some (.str z), none] ∧ PyData.strOk z = true ∧ H' = G, ?_, ?_⟩
    · refine ⟨_, rfl, l, xs, rfl, .inl (sql_of hl), _, _, rfl, rfl, _, rfl, ite2 (fun e => ?_) (fun _ => ⟨_, rfl, by decide +kernel, rfl⟩)⟩
      have h0 : (0 : Int) < (xs.length : Int) := of_decide_eq_true e
      have h0' : 0 < as.length := by omega
      obtain ⟨b, hb⟩ : ∃ b, as.getLast? = some b := by
        cases hq : as.getLast? with
        | none => rw [List.getLast?_eq_none_iff] at hq; subst hq; simp at h0'
        | some b => exact ⟨b, rfl⟩
      obtain ⟨x, hx, hxb⟩ := hM.last hb
      have hbok := hok b (List.mem_of_getLast? hb)
      obtain ⟨t, ws, rfl, ht, hnn⟩ := hxb.lab
      obtain ⟨ys, rfl⟩ := hnn hbok.1
      have hxe : atI xs (-1) = some (V.ref t) := by
        exact atI_lastQ hx
      refine ⟨_, rfl, _, rfl, l, xs, -1, _, rfl, rfl, sql_of hl, hxe, t, _, 0, .str b.lab, rfl, rfl, sql_ofT ht, at0, rfl, _, rfl, ite2 (fun _ => ?_) (fun _ => ⟨_, rfl, by decide +kernel, rfl⟩)⟩
      exact ⟨_, rfl, _, rfl, l, xs, -1, _, rfl, rfl, sql_of hl, hxe, t, _, 1, .str b.nm, rfl, rfl, sql_ofT ht, at1, _, rfl, hbok.2.2.1, rfl⟩
    rintro σ' H' ⟨z, rfl, hz, eH⟩
    have eH2 := eH.symm
    subst eH2
    have hap0 : Apart (as.map fun _ => ([] : List Addr)) := by
      refine List.pairwise_map.mpr (List.pairwise_of_forall fun _ _ q hq => by simp at hq)
    refine ⟨fun σ' H' => ∃ ys mss x3 x4 x5 x6, σ' = [some (.ref a), some (.ref nl), some (.ref l), x3, x4, x5, x6] ∧ Beg C H H' l ys mss ∧ Kp a H H' ∧ Src H' a c ∧ ys.length ≤ 200, ?_, ?_⟩
    · refine ⟨_, rfl, a, c, 4, rfl, sr2, by decide, by decide, fun t4 H4 _ _ kp4 sr4 => ?_⟩
      have kp5 := kp.trans kp4
      have hl4 := kp4 _ _ hl nla
      have kt4 := Kt.kp kp4 sr2.at_.choose_spec
      have hB4 : All2 (BI C H4) xs (as.map fun _ => []) := bi_all (hM.kt kt4) hok
      have hfr4 : ∀ ms ∈ (as.map fun _ => ([] : List Addr)), ∀ q ∈ ms, H q = none ∧ H4 q ≠ none ∧ q ≠ l := fun ms hms q hq => by
        obtain ⟨_, _, rfl⟩ := List.mem_map.mp hms
        simp at hq
      have beg4 : Beg C H H4 l xs (as.map fun _ => []) := ⟨hl4, hB4, hap0, hfr4⟩
      refine ⟨rfl, _, rfl, ite2 (fun _ => ⟨_, rfl, rfl, _, rfl, ite2 (fun _ => ?_) (fun _ => ⟨xs, _, _, _, _, _, rfl, beg4, kp5, sr4, by omega⟩)⟩) (fun _ => ⟨xs, _, _, _, _, _, rfl, beg4, kp5, sr4, by omega⟩)⟩
      refine ⟨_, rfl, a, c, 7, rfl, sr4, by decide, by decide, fun d H5 d0 d1 kp6 sr5 => ⟨_, _, rfl, rfl, fun r er => ⟨r, rfl, by omega, by omega, for_range (lo := 0) (n := r.toNat) (fun i σ G => ∃ ys mss x3 x4 x6, σ = [some (.ref a), some (.ref nl), some (.ref l), x3, x4, some (.str z), x6] ∧ Beg C H G l ys mss ∧ Kp a H G ∧ Src G a c ∧ ys.length ≤ 15 + i) ⟨xs, as.map fun _ => [], _, _, _, rfl, ?_, kp5.trans kp6, sr5, by omega⟩ ?_ ?_⟩⟩⟩
      · exact beg4.kp kp6 sr4.at_.choose_spec (by rw [hsa]; exact fun z => nomatch z) nla
      · rintro i σ G6 hi ⟨ys, mss, x3, x4, x6, rfl, hbeg, kp7, sr7, hyl⟩
        refine ⟨fun σ' H' => ∃ (z1 z2 : Str) (q : Addr), σ' = [some (.ref a), some (.ref nl), some (.ref l), some (.int (0 + (i : Int))), x4, some (.str z), some (.ref q)] ∧ H' q = some (.tup [.str z1, .str z2]) ∧ PyData.strOk z1 = true ∧ PyData.strOk z2 = true ∧ Same G6 H', ?_, ?_⟩
        · have bA : ∀ Q : Addr → Hp → Prop, (∀ q (z1 z2 : Str) H', H' q = some (.tup [.str z1, .str z2]) → PyData.strOk z1 = true → PyData.strOk z2 = true → Same G6 H' → Q q H') → True := fun _ _ => trivial
          refine ⟨_, rfl, rfl, _, rfl, ite2 (fun _ => ⟨_, rfl, (by show 2 ≤ sizeLine; decide), fun q nq => ⟨z, "frame", q, rfl, upd_same, hz, by decide +kernel, same_upd nq⟩⟩) (fun _ => ⟨_, rfl, _, rfl, _, _, rfl, rfl, (by decide), fun m3 m30 m31 => ⟨_, _, rfl, rfl, _, rfl, ite2 (fun _ => ⟨_, rfl, (by show 2 ≤ sizeLine; decide), fun q nq => ⟨z, "frame", q, rfl, upd_same, hz, by decide +kernel, same_upd nq⟩⟩) (fun _ => ⟨_, rfl, (by show 2 ≤ sizeLine; decide), fun q nq => ⟨"frame", z, q, rfl, upd_same, by decide +kernel, hz, same_upd nq⟩⟩)⟩⟩)⟩
        rintro σ' H8 ⟨z1, z2, q, rfl, hq, hz1, hz2, s8⟩
        have hl8 := s8 _ _ hbeg.at_
        refine ⟨_, rfl, .inl ⟨rfl, _, sql_of hl8⟩, _, rfl, q, _, 0, .str z1, rfl, rfl, sql_ofT hq, at0, _, rfl, q, _, 1, .str z2, rfl, rfl, sql_ofT hq, at1, _, rfl, _, rfl, (by show 0 ≤ sizeLine; decide), fun e ne => ?_⟩
        have se := same_upd (o := .tup ([] : List V)) ne
        refine ⟨(by show 2 ≤ sizeLine; decide), fun mf nm => ?_⟩
        have sm := same_upd (o := .tup [V.int (0 + (i : Int)), V.ref e]) nm
        refine ⟨(by show 0 ≤ sizeLine; decide), fun pl np => ?_⟩
        have sp := same_upd (o := .lst ([] : List V)) np
        refine ⟨(by show 0 ≤ sizeLine; decide), fun wl nw => ?_⟩
        have sw := same_upd (o := .lst ([] : List V)) nw
        refine ⟨(by show 7 ≤ sizeLine; decide), fun t nt => ?_⟩
        have st := same_upd (o := .tup [V.str "rule", V.str z1, V.str z2, V.int (0 + (i : Int)), V.ref mf, V.ref pl, V.ref wl]) nt
        have sA := s8.trans (se.trans sm)
        have sB := sA.trans sp
        have sAll := (sB.trans sw).trans st
        have g1 : G6 pl = none := Src.free (Kp.same sA) (sr7.of_same sA) np
        have g2 : H pl = none := Src.free kp7 sr7 g1
        have g3 : G6 wl = none := Src.free (Kp.same sB) (sr7.of_same sB) nw
        have g4 : H wl = none := Src.free kp7 sr7 g3
        have hwl := st _ _ (upd_same (H := upd (upd (upd _ e (.tup [])) mf (.tup [V.int (0 + (i : Int)), V.ref e])) pl (.lst [])) (a := wl) (o := .lst []))
        have hpl := (sw.trans st) _ _ (upd_same (H := upd (upd _ e (.tup [])) mf (.tup [V.int (0 + (i : Int)), V.ref e])) (a := pl) (o := .lst []))
        have hmf := ((sp.trans sw).trans st) _ _ (upd_same (H := upd _ e (.tup [])) (a := mf) (o := .tup [V.int (0 + (i : Int)), V.ref e]))
        have he := (((sm.trans sp).trans sw).trans st) _ _ (upd_same (a := e) (o := .tup []))
        refine ⟨l, ys, _, rfl, rfl, sAll _ _ hbeg.at_, small1000 (by omega), ys ++ [.ref t], mss ++ [[pl, wl]], _, _, _, rfl, hbeg.push sAll ?_ ?_, (kp7.trans (Kp.same sAll)).into nl0, (sr7.of_same sAll).of_upd nla.symm (lc sr7 hbeg.at_ kp7), by rw [List.length_append]; show ys.length + 1 ≤ _; omega⟩
        · refine ⟨t, .ru z1 z2 (0 + (i : Int)) [] [], rfl, ⟨hz1, hz2, fun _ z => by simp at z, fun _ z => by simp at z, ⟨by decide, fun _ z => by simp at z, fun _ z => by simp at z⟩⟩, ⟨_, upd_same, fun q hq => ?_⟩, .inr ⟨pl, wl, rfl, ⟨_, hpl⟩, ⟨_, hwl⟩, ⟨⟨_, ⟨mf, pl, [], upd_same, ⟨e, [], hmf, he, .nil⟩, hpl, .nil⟩, .num _, [], .inl hwl, .nil⟩, by decide, by decide, fun _ z => by simp at z⟩⟩⟩
          simp only [List.mem_cons, List.not_mem_nil, or_false] at hq
          rcases hq with e1 | e1 | e1 | e1 | e1 | e1 | e1
          · cases e1
          · cases e1
          · cases e1
          · cases e1
          · cases e1
            exact .inr ⟨_, hmf, trivial⟩
          · cases e1
            exact .inl (by simp)
          · cases e1
            exact .inl (by simp)
        · intro q hq
          simp only [List.mem_cons, List.not_mem_nil, or_false] at hq
          rcases hq with rfl | rfl
          · exact ⟨g2, by rw [hpl]; exact (fun z => nomatch z), g1⟩
          · exact ⟨g4, by rw [hwl]; exact (fun z => nomatch z), g3⟩
      · rintro σ G6 ⟨ys, mss, x3, x4, x6, rfl, hbeg, kp7, sr7, hyl⟩
        exact ⟨ys, mss, _, _, _, _, rfl, hbeg, kp7, sr7, by omega⟩
    rintro σ' H9 ⟨ys, mss, x3, x4, x5, x6, rfl, hbeg, kp9, sr9, hyl⟩
    exact ⟨_, rfl, k l H9 ys mss nl0 kp9 sr9 hbeg hyl⟩
end
end DO

namespace DO
open PySem PySem.Spec PyProof.Rows L2
section
variable {P : Program} {w : World} {K : PySem.W.Frag} {mg : Str → Option Value} {base : Heap}
/-! ### the law itself -/
abbrev sLaw : Stmt := top 64
structure FkG (P : Program) (w : World) (K : PySem.W.Frag) (mg : Str → Option Value) (base : Heap) (k : Nat) (x : Str) (st : Stmt) (ps : List Str) (sp : Sp) where
  D : Df K mg x st ps
  G : FnG P w K mg base k D.f D.fd ps sp
/-- where the two cards and the two lists of the law stand -/
structure Fac where
  a : Addr
  c : Addr
  CL : Addr
  ML : Addr
  nl : Addr
  p : Bool → Addr
  L : Bool → Addr
  m : Bool → Addr
structure Apt (f : Fac) : Prop where
  La : ∀ b, f.L b ≠ f.a
  ma : ∀ b, f.m b ≠ f.a
  Lc : ∀ b, f.L b ≠ f.c
  mc : ∀ b, f.m b ≠ f.c
  Lm : ∀ b b', f.L b ≠ f.m b'
  LL : ∀ b, f.L (!b) ≠ f.L b
  mm : ∀ b, f.m (!b) ≠ f.m b
  CLL : ∀ b, f.CL ≠ f.L b
  CLm : ∀ b, f.CL ≠ f.m b
  MLL : ∀ b, f.ML ≠ f.L b
  MLm : ∀ b, f.ML ≠ f.m b
  nlL : ∀ b, f.nl ≠ f.L b
  nlm : ∀ b, f.nl ≠ f.m b
  CLa : f.CL ≠ f.a
  MLa : f.ML ≠ f.a
  nla : f.nl ≠ f.a
structure St (C D : Addr) (f : Fac) (ns : List (List Nat)) (H : Hp) (as : Bool → List Ac) : Prop where
  sr : Src H f.a f.c
  hC : H f.CL = some (.lst [.ref (f.p false), .ref (f.p true)])
  hM : H f.ML = some (.lst [.ref (f.m false), .ref (f.m true)])
  hN : H f.nl = some (.lst (NmL ns))
  cp : ∀ b, CardP D H (f.p b) (f.L b)
  cr : ∀ b, ActsR C H (f.L b) (as b)
  cm : ∀ b, ActsM H (f.m b) (as b)
  cg : ∀ b, GoodC (as b)
  ca : ∀ b, ∀ x ∈ as b, AcOk x
theorem St.kp {C D : Addr} {f : Fac} {ns : List (List Nat)} {H H' : Hp} {as : Bool → List Ac} (h : St C D f ns H as) (ap : Apt f) (k : Kp f.a H H') (sr : Src H' f.a f.c) : St C D f ns H' as := by
  obtain ⟨_, ha⟩ := h.sr.at_
  exact ⟨sr, k _ _ h.hC ap.CLa, k _ _ h.hM ap.MLa, k _ _ h.hN ap.nla, fun b => (h.cp b).kt (Kt.kp k ha), fun b => (h.cr b).kp k ha (ap.La b), fun b => (h.cm b).kp k ha (ap.ma b), h.cg, h.ca⟩
theorem St.same {C D : Addr} {f : Fac} {ns : List (List Nat)} {H H' : Hp} {as : Bool → List Ac} (h : St C D f ns H as) (ap : Apt f) (k : Same H H') : St C D f ns H' as := h.kp ap (Kp.same k) (h.sr.of_same k)
def putB (as : Bool → List Ac) (b : Bool) (n : List Ac) : Bool → List Ac := fun x => if x = b then n else as x
theorem putB_eq {as : Bool → List Ac} {b : Bool} {n : List Ac} : putB as b n b = n := if_pos rfl
theorem putB_ne {as : Bool → List Ac} {b : Bool} {n : List Ac} : putB as b n (!b) = as (!b) := if_neg (by cases b <;> decide)
theorem all_b {φ : Bool → Prop} (b : Bool) (h1 : φ b) (h2 : φ (!b)) : ∀ x, φ x := fun x => by
  cases b <;> cases x <;> first | exact h1 | exact h2
theorem St.told {C D : Addr} {f : Fac} {ns : List (List Nat)} {H H' : Hp} {as : Bool → List Ac} (h : St C D f ns H as) (ap : Apt f) (b : Bool) {wv : Addr} {n : List Ac}
    (k : ∀ x o, H x = some o → x ≠ f.a → x ≠ f.L b → x ≠ f.m b → x ≠ wv → H' x = some o) (kt : Kt H H') (hw : ∀ x ∈ [f.CL, f.ML, f.nl, f.L (!b), f.m (!b)], x ≠ wv) (sr : Src H' f.a f.c) (cr : ActsR C H' (f.L b) n) (cm : ActsM H' (f.m b) n) (cg : GoodC n) (ca : ∀ x ∈ n, AcOk x) : St C D f ns H' (putB as b n) := by
  refine ⟨sr, k _ _ h.hC ap.CLa (ap.CLL b) (ap.CLm b) (hw _ (by simp)), k _ _ h.hM ap.MLa (ap.MLL b) (ap.MLm b) (hw _ (by simp)), k _ _ h.hN ap.nla (ap.nlL b) (ap.nlm b) (hw _ (by simp)), fun x => (h.cp x).kt kt, all_b b ?_ ?_, all_b b ?_ ?_, all_b b ?_ ?_, all_b b ?_ ?_⟩
  · rw [putB_eq]; exact cr
  · rw [putB_ne]
    obtain ⟨⟨xs, h1, h2⟩, h3⟩ := h.cr (!b)
    exact ⟨⟨xs, k _ _ h1 (ap.La _) (ap.LL b) (ap.Lm _ _) (hw _ (by simp)), h2.kt kt⟩, h3⟩
  · rw [putB_eq]; exact cm
  · rw [putB_ne]
    obtain ⟨⟨xs, h1, h2⟩, h3⟩ := h.cm (!b)
    exact ⟨⟨xs, k _ _ h1 (ap.ma _) (ap.Lm _ _).symm (ap.mm b) (hw _ (by simp)), h2.kt kt⟩, h3⟩
  · rw [putB_eq]; exact cg
  · rw [putB_ne]; exact h.cg _
  · rw [putB_eq]; exact ca
  · rw [putB_ne]; exact h.ca _
theorem Src.k3 {L m wv a c : Addr} {H H' : Hp} (h : Src H a c) (k : K3 L m wv H H') (a1 : a ≠ L) (a2 : a ≠ m) (a3 : a ≠ wv) (c1 : c ≠ L) (c2 : c ≠ m) (c3 : c ≠ wv) : Src H' a c := by
  obtain ⟨z0, z1, nn, h1, h2, h3, h4⟩ := h
  exact ⟨z0, z1, nn, k _ _ h1 a1 a2 a3, h2, k _ _ h3 c1 c2 c3, h4⟩
theorem St.live {C D : Addr} {f : Fac} {ns : List (List Nat)} {H : Hp} {as : Bool → List Ac} (h : St C D f ns H as) : H f.a ≠ none ∧ H f.c ≠ none ∧ H f.CL ≠ none ∧ H f.ML ≠ none ∧ H f.nl ≠ none ∧ ∀ b, H (f.L b) ≠ none ∧ H (f.m b) ≠ none := by
  obtain ⟨_, _, _, h1, _, h3, _⟩ := h.sr
  refine ⟨(by rw [h1]; exact (fun z => nomatch z)), (by rw [h3]; exact (fun z => nomatch z)), (by rw [h.hC]; exact (fun z => nomatch z)), (by rw [h.hM]; exact (fun z => nomatch z)), (by rw [h.hN]; exact (fun z => nomatch z)), fun b => ?_⟩
  obtain ⟨⟨xs, g1, _⟩, _⟩ := h.cr b
  obtain ⟨⟨ys, g2, _⟩, _⟩ := h.cm b
  exact ⟨(by rw [g1]; exact (fun z => nomatch z)), (by rw [g2]; exact (fun z => nomatch z))⟩
def bi (b : Bool) : Int := if b = true then 1 else 0
theorem at_bi (g : Bool → Addr) (b : Bool) : atI [V.ref (g false), V.ref (g true)] (bi b) = some (V.ref (g b)) := by
  cases b
  · exact at0
  · exact at1
theorem bi_of {i : Int} (h0 : 0 ≤ i) (h1 : i < 2) : ∃ b, i = bi b := by
  by_cases h : i = 0
  · exact ⟨false, h⟩
  · exact ⟨true, by show i = 1; omega⟩
theorem callW_head {C : Addr} {H : Hp} {t wv : Addr} {cl : Cl} (h : CallW C H t wv cl) : (∃ w lo hi, cl = .st (.me w lo hi) ∧ H t = some (.tup [.str "measure", .str w, .int lo, .int hi])) ∨ ∃ (lab : Str) (ys : List V), H t = some (.tup (.str lab :: ys)) ∧ lab ≠ "measure" := by
  cases cl with
  | st a =>
    obtain ⟨⟨t', xs, e, h1, h2⟩, h3, _⟩ := h
    cases e
    cases a with
    | me w lo hi => subst h2; exact .inl ⟨w, lo, hi, rfl, h1⟩
    | tu w k => subst h2; exact .inr ⟨_, _, h1, by decide⟩
    | pa w => subst h2; exact .inr ⟨_, _, h1, by decide⟩
    | ru u l n ts ps => cases h3
  | ru u l n ts ps =>
    obtain ⟨⟨x, ⟨m, pl, us, h1, _⟩, _⟩, _⟩ := h
    exact .inr ⟨_, _, h1, by decide⟩
  | ba => exact .inr ⟨_, _, h, by decide⟩
  | fo z => exact .inr ⟨_, _, h.1, by decide⟩
theorem back2 {H : Hp} {d p x : Addr} {o u : HO} (h : (L2.upd (L2.upd H d o) p u) x = none) (nd : H d = none) (np : H p = none) : H x = none := by
  by_cases e1 : x = p
  · rw [e1]; exact np
  · by_cases e2 : x = d
    · rw [e2]; exact nd
    · rw [upd_ne e1, upd_ne e2] at h
      exact h
theorem born {H H' : Hp} {ys : List Addr} {x : Addr} (al : ∀ y ∈ ys, H y ≠ none) (s : Same H H') (nx : H x = none) (hx : H' x ≠ none) : (∀ y ∈ ys, y ≠ x) ∧ ∀ y ∈ x :: ys, H' y ≠ none := by
  refine ⟨fun y hy e => al y hy (by rw [e]; exact nx), fun y hy => ?_⟩
  rcases List.mem_cons.mp hy with rfl | hy
  · exact hx
  · cases q : H y with
    | none => exact absurd q (al y hy)
    | some o => rw [s _ _ q]; exact fun z => nomatch z
theorem good_nil : GoodC [] := ⟨.nil, fun _ _ _ z => by simp at z, fun _ _ z => by simp at z, Nat.zero_le _, Nat.zero_le _, Nat.zero_le _, Nat.zero_le _⟩
theorem names_of (as : List Ac) : (as.filterMap fun a => (noRu a).map Ac.nm) = namesOf as := by
  unfold namesOf stepsOf
  rw [List.map_filterMap]
theorem cut_names {ns : List (List Nat)} (h : ns.length = 18) {r : Int} (h0 : 16 ≤ r) (h1 : r < 19) : ∃ k : Nat, 16 ≤ k ∧ k ≤ 18 ∧ cutV (NmL ns) none (some r) = NmL (ns.take k) := by
  refine ⟨r.toNat, by omega, by omega, ?_⟩
  have e1 : HT.sIx 18 0 none = 0 := rfl
  have e2 : HT.sIx 18 18 (some r) = r.toNat := by
    show (if r < 0 then _ else min r.toNat 18) = _
    rw [if_neg (by omega)]
    omega
  unfold cutV
  rw [nml_len, h, e1, e2, List.drop_zero]
  show (NmL ns).take r.toNat = _
  unfold NmL
  rw [List.map_take]
theorem scLaw : FnScope ["_law_script", "_law_source_here", "_law_cards", "_law_models", "_law_names_here", "_law_favour", "_law_start", "_law_call_here", "_law_k", "_law_spot", "_law_word_here", "_law_inside", "_law_act_here"] ["_law_script"] (defScope sLaw) := ⟨rfl, rfl, rfl, by decide +kernel, rfl, by decide +kernel, by decide +kernel⟩
def spLaw (K : PySem.W.Frag) : Sp := fun vs H Q _ => ∃ (a : Addr) (ns : List Int), vs = [.ref a] ∧ SqL K H a (ns.map V.int) ∧ ns.length ≤ 63 ∧ ∀ H', Q (.bl true) H'
theorem ok_law {C D : Addr} (DL : Df K mg "law" sLaw ["_law_script"]) (T : Crd K mg D) (CI : Me P w K mg base 3 D "__contains__" "Card.__contains__" sCin ["self", "x"] (spCin C D)) (TT : Fk P w K mg base 2 "_law_take" sTake ["_law_source_here", "_law_many"] spTake) (AN : Fk P w K mg base 3 "_law_any" sAny ["_law_source_here", "_law_first", "_law_second"] spAny) (CMI : Mf K D "__init__" "Card.__init__" sCini ["self"]) (MKC : Mk K D CMI.f) (SO : Fk P w K mg base 1 "_law_source" sSource ["_law_script"] (spSource K)) (NM : Fk P w K mg base 4 "_law_names" sNames ["_law_source_here", "_law_many"] spNames) (BE : Fk P w K mg base 4 "_law_beginning" sBeg ["_law_source_here", "_law_names_here"] (spBeg C)) (TO : FkG P w K mg base 8 "_law_told" sTol ["_law_card", "_law_model", "_law_call_here"] (spTol C D)) (SA : Fk P w K mg base 5 "_law_same_card" sSca ["_law_card", "_law_model"] (spSca C D)) (DC : Fk P w K mg base 9 "_law_draw_call" sDrc ["_law_source_here", "_law_model", "_law_names_here", "_law_favour"] (spDrc C)) (mr : mg "range" = none) (ma : mg "abs" = none) (mis : mg "isinstance" = none) (mbo : mg "bool" = none) :
    FnG P w K mg base 13 DL.f DL.fd ["_law_script"] (spLaw K) := by
  have GCI : FnOk P w K mg base CX0 1 CMI.f CMI.fd ["self"] (spCini D) := ok_cini T CMI
  refine okG DL.fn scLaw (fun vs H Q E h => ?_) (fun cdv A outer s0 H vs Q E hgd hr h => ?_)
  · obtain ⟨a, ns, rfl, _⟩ := h
    rfl
  · obtain ⟨sc, cells, rfl, hcells, hc63, k⟩ := h
    refine ⟨_, (pss_cons (ps_set (i := 1) scLaw.nd rfl (.inl rfl) (pe_call SO.G (hr.mono (by decide)) (by rfl) SO.D.mgf SO.D.fn.kp SO.D.bd .nil pass0 (pa_cons (pv 0) pa_nil)))
      (pss_cons (ps_set (i := 2) scLaw.nd rfl (.inl rfl) (pe_lst (pa_cons (pe_make0 MKC GCI (hr.mono (by decide)) rfl T.mgC CMI.bd .nil pass0) (pa_cons (pe_make0 MKC GCI (hr.mono (by decide)) rfl T.mgC CMI.bd .nil pass0) pa_nil))))
      (pss_cons (ps_set (i := 3) scLaw.nd rfl (.inl rfl) (pe_lst (pa_cons (pe_lst pa_nil) (pa_cons (pe_lst pa_nil) pa_nil))))
      (pss_cons (ps_set (i := 4) scLaw.nd rfl (.inl rfl) (pe_slice (show SlR _ (rSlL K) from sl_list) (pe_call NM.G (hr.mono (by decide)) (by rfl) NM.D.mgf NM.D.fn.kp NM.D.bd .nil pass0 (pa_cons (pv 1) (pa_cons pe_int pa_nil))) po_none (po_some (pe_op op_addL pe_int (pe_call TT.G (hr.mono (by decide)) (by rfl) TT.D.mgf TT.D.fn.kp TT.D.bd .nil pass0 (pa_cons (pv 1) (pa_cons pe_int pa_nil)))))))
      (pss_cons (ps_set (i := 5) scLaw.nd rfl (.inl rfl) (pe_call TT.G (hr.mono (by decide)) (by rfl) TT.D.mgf TT.D.fn.kp TT.D.bd .nil pass0 (pa_cons (pv 1) (pa_cons pe_int pa_nil))))
      (pss_cons (ps_set (i := 6) scLaw.nd rfl (.inl rfl) (pe_call TT.G (hr.mono (by decide)) (by rfl) TT.D.mgf TT.D.fn.kp TT.D.bd .nil pass0 (pa_cons (pv 1) (pa_cons pe_int pa_nil))))
      (pss_cons (ps_for PassesOwn.never rfl (pi_list (pe_call BE.G (hr.mono (by decide)) (by rfl) BE.D.mgf BE.D.fn.kp BE.D.bd .nil pass0 (pa_cons (pv 1) (pa_cons (pv 4) pa_nil)))) (pg_name (i := 7) scLaw.nd rfl (Or.inl rfl))
      (C8.pss_cut (ps_if (PW.pt (pw_and (pt_cmpR op_eq (pe_ix (show IxR _ (rIxT K) from ix_tup) (pv 7) pe_int (fun _ _ => rfl)) pe_str (nomark _)) (pw_and1 (pt_cmpR op_ge (pe_callB call_absL (by rfl) ma (by decide +kernel) (pa_cons (pe_ix (show IxR _ (rIxT K) from ix_tup) (pv 7) pe_int (fun _ _ => rfl)) pa_nil)) (pe_op op_powL pe_int pe_int) (nomark _)))))
      (pss_one (ps_set (i := 7) scLaw.nd rfl (.inl rfl) (pe_tup (pa_cons pe_str (pa_cons (pe_ix (show IxR _ (rIxT K) from ix_tup) (pv 7) pe_int (fun _ _ => rfl)) (pa_cons (pe_ix (show IxR _ (rIxT K) from ix_tup) (pv 7) pe_int (fun _ _ => rfl)) (pa_cons (pe_ix (show IxR _ (rIxT K) from ix_tup) (pv 7) pe_int (fun _ _ => rfl)) pa_nil)))))))
      pss_nil) (pss_one (ps_if (pt_not (pt_val (pe_callG TO.G hgd (hr.mono (by decide)) (by rfl) TO.D.mgf TO.D.fn.kp TO.D.bd (pa_cons (pe_ix ix_list (pv 2) (pv 6) (fun _ _ => rfl)) (pa_cons (pe_ix ix_list (pv 3) (pv 6) (fun _ _ => rfl)) (pa_cons (pv 7) pa_nil))))))
      (pss_one (ps_never))
      pss_nil))))
      (pss_cons (ps_if (PW.pt (pw_or (pt_not (pt_val (pe_call SA.G (hr.mono (by decide)) (by rfl) SA.D.mgf SA.D.fn.kp SA.D.bd .nil pass0 (pa_cons (pe_ix ix_list (pv 2) pe_int (fun _ _ => rfl)) (pa_cons (pe_ix ix_list (pv 3) pe_int (fun _ _ => rfl)) pa_nil))))) (pw_or1 (pt_not (pt_val (pe_call SA.G (hr.mono (by decide)) (by rfl) SA.D.mgf SA.D.fn.kp SA.D.bd .nil pass0 (pa_cons (pe_ix ix_list (pv 2) pe_int (fun _ _ => rfl)) (pa_cons (pe_ix ix_list (pv 3) pe_int (fun _ _ => rfl)) pa_nil))))))))
      (pss_one (ps_never))
      pss_nil)
      (pss_cons (ps_for PassesOwn.never rfl (pi_range1 rfl mr (pa_cons (pe_op op_addL pe_int (pe_call TT.G (hr.mono (by decide)) (by rfl) TT.D.mgf TT.D.fn.kp TT.D.bd .nil pass0 (pa_cons (pv 1) (pa_cons pe_int pa_nil)))) pa_nil)) (pg_name (i := 8) scLaw.nd rfl (Or.inl rfl))
      (C8.pss_cut (ps_set (i := 9) scLaw.nd rfl (.inl rfl) (pe_ifExp (pt_cmpR op_gt (pe_call TT.G (hr.mono (by decide)) (by rfl) TT.D.mgf TT.D.fn.kp TT.D.bd .nil pass0 (pa_cons (pv 1) (pa_cons pe_int pa_nil))) pe_int (nomark _)) (pv 6) (pe_op op_subL pe_int (pv 6)))) (pss_cons (ps_set (i := 7) scLaw.nd rfl (.inl rfl) (pe_call DC.G (hr.mono (by decide)) (by rfl) DC.D.mgf DC.D.fn.kp DC.D.bd .nil pass0 (pa_cons (pv 1) (pa_cons (pe_ix ix_list (pv 3) (pv 9) (fun _ _ => rfl)) (pa_cons (pv 4) (pa_cons (pv 5) pa_nil))))))
      (pss_cons (ps_if (pt_not (pt_val (pe_callG TO.G hgd (hr.mono (by decide)) (by rfl) TO.D.mgf TO.D.fn.kp TO.D.bd (pa_cons (pe_ix ix_list (pv 2) (pv 9) (fun _ _ => rfl)) (pa_cons (pe_ix ix_list (pv 3) (pv 9) (fun _ _ => rfl)) (pa_cons (pv 7) pa_nil))))))
      (pss_one (ps_never))
      pss_nil)
      (pss_cons (ps_set (i := 10) scLaw.nd rfl (.inl rfl) (pe_call AN.G (hr.mono (by decide)) (by rfl) AN.D.mgf AN.D.fn.kp AN.D.bd .nil pass0 (pa_cons (pv 1) (pa_cons (pv 4) (pa_cons (pe_lst (pa_cons pe_str (pa_cons pe_str (pa_cons pe_str pa_nil)))) pa_nil)))))
      (pss_cons (ps_set (i := 11) scLaw.nd rfl (.inl rfl) (pe_cmpR (op_inO CI.M.me CI.G (hr.mono (by decide)) CI.M.bd pass0) (pv 10) (pe_ix ix_list (pv 2) (pv 9) (fun _ _ => rfl)) rfl))
      (pss_cons (ps_if (PW.pt (pw_or (pt_not (pt_val (pe_callB call_isi (by rfl) mis (by decide +kernel) (pa_cons (pv 11) (pa_cons (pe_bltn (v := .ty "bool") (by rfl) mbo (by decide +kernel) rfl) pa_nil))))) (pw_or1 (pt_cmpR op_ne (pv 11) (pe_cmpR (show OpR _ _ (rIn K false) from op_in_seq) (pv 10) (pe_lc (own := [("_law_act_here", 12)]) (g := gName 12) (tt := _) rfl scLaw.nd (pi_list (pe_ix ix_list (pv 3) (pv 9) (fun _ _ => rfl))) (blkOk_by (N := ["_law_script", "_law_source_here", "_law_cards", "_law_models", "_law_names_here", "_law_favour", "_law_start", "_law_call_here", "_law_k", "_law_spot", "_law_word_here", "_law_inside", "_law_act_here"]) (sc := defScope sLaw) (by decide +kernel)) (fun _ _ _ _ _ => pg_name (i := 12) scLaw.nd rfl (Or.inl rfl)) (fun _ _ _ _ _ => pts_one (pt_cmpR op_ne (pe_ix (show IxR _ (rIxT K) from ix_tup) (pv 12) pe_int (fun _ _ => rfl)) pe_str (nomark _))) (fun _ _ _ _ _ => (pe_ix (show IxR _ (rIxT K) from ix_tup) (pv 12) pe_int (fun _ _ => rfl)))) rfl) (nomark _)))))
      (pss_one (ps_never))
      pss_nil)
      (pss_one (ps_if (PW.pt (pw_or (pt_not (pt_val (pe_call SA.G (hr.mono (by decide)) (by rfl) SA.D.mgf SA.D.fn.kp SA.D.bd .nil pass0 (pa_cons (pe_ix ix_list (pv 2) pe_int (fun _ _ => rfl)) (pa_cons (pe_ix ix_list (pv 3) pe_int (fun _ _ => rfl)) pa_nil))))) (pw_or1 (pt_not (pt_val (pe_call SA.G (hr.mono (by decide)) (by rfl) SA.D.mgf SA.D.fn.kp SA.D.bd .nil pass0 (pa_cons (pe_ix ix_list (pv 2) pe_int (fun _ _ => rfl)) (pa_cons (pe_ix ix_list (pv 3) pe_int (fun _ _ => rfl)) pa_nil))))))))
      (pss_one (ps_never))
      pss_nil)))))))))
      (pss_one (ps_ret pe_bl))))))))))), ?_⟩
    refine ⟨_, rfl, sc, cells, rfl, hcells, hc63, fun a c H1 na nc s1 sr1 => ?_⟩
    obtain ⟨_, hsa1⟩ := sr1.at_
    have hsc1 : H1 c ≠ none := by
      obtain ⟨_, _, _, _, _, g3, _⟩ := sr1
      rw [g3]
      exact fun z => nomatch z
    refine fun p0 d0 np0 nd0 ne0 => ⟨p0, d0, rfl, upd_same, fun L0 H2 nL0 hp0 hL0 k0 => ⟨rfl, ?_⟩⟩
    have s2 : Same H1 H2 := fun b o e => k0 b o (by rw [upd_ne (ne_of_none e np0), upd_ne (ne_of_none e nd0)]; exact e) (ne_of_none e np0)
    have bL0 : H1 L0 = none := back2 nL0 nd0 np0
    clear k0
    refine fun p1 d1 np1 nd1 ne1 => ⟨p1, d1, rfl, upd_same, fun L1 H3 nL1 hp1 hL1 k1 => ⟨rfl, ?_⟩⟩
    have s3 : Same H2 H3 := fun b o e => k1 b o (by rw [upd_ne (ne_of_none e np1), upd_ne (ne_of_none e nd1)]; exact e) (ne_of_none e np1)
    have bL1 : H2 L1 = none := back2 nL1 nd1 np1
    clear k1
    refine ⟨(by show 2 ≤ sizeLine; decide), fun CL nCL => ?_⟩
    have s4 := same_upd (o := .lst [V.ref p0, V.ref p1]) nCL
    have hCL : (upd H3 CL (.lst [V.ref p0, V.ref p1])) CL = some (.lst [V.ref p0, V.ref p1]) := upd_same
    generalize (upd H3 CL (.lst [V.ref p0, V.ref p1])) = H4 at s4 hCL
    refine ⟨(by show 0 ≤ sizeLine; decide), fun m0 nm0 => ?_⟩
    have s5 := same_upd (o := .lst ([] : List V)) nm0
    have hm0 : (upd H4 m0 (.lst [])) m0 = some (.lst []) := upd_same
    generalize (upd H4 m0 (.lst [])) = H5 at s5 hm0
    refine ⟨(by show 0 ≤ sizeLine; decide), fun m1 nm1 => ?_⟩
    have s6 := same_upd (o := .lst ([] : List V)) nm1
    have hm1 : (upd H5 m1 (.lst [])) m1 = some (.lst []) := upd_same
    generalize (upd H5 m1 (.lst [])) = H6 at s6 hm1
    refine ⟨(by show 2 ≤ sizeLine; decide), fun ML nML => ?_⟩
    have s7 := same_upd (o := .lst [V.ref m0, V.ref m1]) nML
    have hML : (upd H6 ML (.lst [V.ref m0, V.ref m1])) ML = some (.lst [V.ref m0, V.ref m1]) := upd_same
    generalize (upd H6 ML (.lst [V.ref m0, V.ref m1])) = H7 at s7 hML
    have w1 : ∀ y ∈ [c, a], H1 y ≠ none := fun y hy => by
      simp only [List.mem_cons, List.not_mem_nil, or_false] at hy
      rcases hy with rfl | rfl
      · exact hsc1
      · rw [hsa1]; exact fun z => nomatch z
    obtain ⟨e2, w2⟩ := born w1 s2 bL0 (by rw [hL0]; exact fun z => nomatch z)
    obtain ⟨e3, w3⟩ := born w2 s3 bL1 (by rw [hL1]; exact fun z => nomatch z)
    obtain ⟨e4, w4⟩ := born w3 s4 nCL (by rw [hCL]; exact fun z => nomatch z)
    obtain ⟨e5, w5⟩ := born w4 s5 nm0 (by rw [hm0]; exact fun z => nomatch z)
    obtain ⟨e6, w6⟩ := born w5 s6 nm1 (by rw [hm1]; exact fun z => nomatch z)
    obtain ⟨e7, w7⟩ := born w6 s7 nML (by rw [hML]; exact fun z => nomatch z)
    have sr7 := sr1.of_same (((((s2.trans s3).trans s4).trans s5).trans s6).trans s7)
    refine ⟨_, rfl, a, c, 18, rfl, sr7, by decide, by decide, fun ns f0 H8 nf0 hnl18 hnm hf0 kp8 sr8 => ?_⟩
    have nf0a : f0 ≠ a := fun z => w7 a (by simp) (by rw [← z]; exact nf0)
    refine ⟨_, rfl, a, c, 3, rfl, sr8, by decide, by decide, fun dd H9 dd0 dd1 kp9 sr9 => ⟨_, _, rfl, rfl, fun r er => ⟨r, rfl, f0, NmL ns, rfl, sql_of (kp9 _ _ hf0 nf0a), fun nl nnl => ?_⟩⟩⟩
    obtain ⟨kk, kk16, kk18, ecut⟩ := cut_names (ns := ns) (by omega) (r := r) (by omega) (by omega)
    rw [ecut]
    have e8 : ∀ y ∈ [ML, m1, m0, CL, L1, L0, c, a], y ≠ nl := fun y hy z => by
      by_cases ya : y = a
      · obtain ⟨_, hh⟩ := sr9.at_
        rw [← ya, z, nnl] at hh
        cases hh
      · have := w7 y hy
        cases q : H7 y with
        | none => exact this q
        | some o =>
          have := kp9 _ _ (kp8 _ _ q ya) ya
          rw [z, nnl] at this
          cases this
    have s10 := same_upd (o := .lst (NmL (ns.take kk))) nnl
    have hnl : (upd H9 nl (.lst (NmL (ns.take kk)))) nl = some (.lst (NmL (ns.take kk))) := upd_same
    generalize (upd H9 nl (.lst (NmL (ns.take kk)))) = H10 at s10 hnl
    have hnm' : ∀ ds ∈ ns.take kk, Nm ds := fun ds hd => hnm ds (List.mem_of_mem_take hd)
    have hnlen : (ns.take kk).length = kk := by rw [List.length_take]; omega
    generalize ns.take kk = ns' at hnl hnm' hnlen
    have k7 : Kp a H7 H10 := (kp8.trans kp9).trans (Kp.same s10)
    have k4 : Kp a H4 H10 := (Kp.same ((s5.trans s6).trans s7)).trans k7
    have k3 : Kp a H3 H10 := (Kp.same s4).trans k4
    have k2 : Kp a H2 H10 := (Kp.same s3).trans k3
    have sr10 := sr9.of_same s10
    have p0a : p0 ≠ a := (ne_of_none hsa1 np0).symm
    have p1a : p1 ≠ a := (ne_of_none (s2 _ _ hsa1) np1).symm
    let f : Fac := ⟨a, c, CL, ML, nl, fun b => cond b p1 p0, fun b => cond b L1 L0, fun b => cond b m1 m0⟩
    have ap : Apt f := by
      refine ⟨fun b => ?_, fun b => ?_, fun b => ?_, fun b => ?_, fun b b' => ?_, fun b => ?_, fun b => ?_, fun b => ?_, fun b => ?_, fun b => ?_, fun b => ?_, fun b => ?_, fun b => ?_, (e4 a (by simp)).symm, (e7 a (by simp)).symm, (e8 a (by simp)).symm⟩
      · cases b
        · exact (e2 a (by simp)).symm
        · exact (e3 a (by simp)).symm
      · cases b
        · exact (e5 a (by simp)).symm
        · exact (e6 a (by simp)).symm
      · cases b
        · exact (e2 c (by simp)).symm
        · exact (e3 c (by simp)).symm
      · cases b
        · exact (e5 c (by simp)).symm
        · exact (e6 c (by simp)).symm
      · cases b <;> cases b'
        · exact e5 L0 (by simp)
        · exact e6 L0 (by simp)
        · exact e5 L1 (by simp)
        · exact e6 L1 (by simp)
      · cases b
        · exact (e3 L0 (by simp)).symm
        · exact e3 L0 (by simp)
      · cases b
        · exact (e6 m0 (by simp)).symm
        · exact e6 m0 (by simp)
      · cases b
        · exact (e4 L0 (by simp)).symm
        · exact (e4 L1 (by simp)).symm
      · cases b
        · exact e5 CL (by simp)
        · exact e6 CL (by simp)
      · cases b
        · exact (e7 L0 (by simp)).symm
        · exact (e7 L1 (by simp)).symm
      · cases b
        · exact (e7 m0 (by simp)).symm
        · exact (e7 m1 (by simp)).symm
      · cases b
        · exact (e8 L0 (by simp)).symm
        · exact (e8 L1 (by simp)).symm
      · cases b
        · exact (e8 m0 (by simp)).symm
        · exact (e8 m1 (by simp)).symm
    have st10 : St C D f ns' H10 (fun _ => []) := by
      refine ⟨sr10, k4 _ _ hCL (ap.CLa), k7 _ _ hML ap.MLa, hnl, fun b => ?_, fun b => ?_, fun b => ?_, fun _ => good_nil, fun _ x hx => by simp at hx⟩
      · cases b
        · exact ⟨d0, k2 _ _ hp0 p0a⟩
        · exact ⟨d1, k3 _ _ hp1 p1a⟩
      · cases b
        · exact ⟨⟨[], k2 _ _ hL0 (ap.La false), .nil⟩, by decide⟩
        · exact ⟨⟨[], k3 _ _ hL1 (ap.La true), .nil⟩, by decide⟩
      · cases b
        · exact ⟨⟨[], ((Kp.same (s6.trans s7)).trans k7) _ _ hm0 (ap.ma false), .nil⟩, by decide⟩
        · exact ⟨⟨[], ((Kp.same s7).trans k7) _ _ hm1 (ap.ma true), .nil⟩, by decide⟩
    have ea : a = f.a := rfl
    have ec : c = f.c := rfl
    have eCL : CL = f.CL := rfl
    have eML : ML = f.ML := rfl
    have enl : nl = f.nl := rfl
    clear_value f
    clear k2 k3 k4 k7 s10 hnl e8 ecut kp8 kp9 sr8 sr9 e2 e3 e4 e5 e6 e7 w1 w2 w3 w4 w5 w6 w7 sr7 p0a p1a sr10 hf0 nf0a nnl
    subst ec eCL eML enl ea
    refine ⟨_, rfl, f.a, f.c, 5, rfl, st10.sr, by decide, by decide, fun fv H11 fv0 fv1 kp11 sr11 => ?_⟩
    refine ⟨_, rfl, f.a, f.c, 2, rfl, sr11, by decide, by decide, fun sv H12 sv0 sv1 kp12 sr12 => ?_⟩
    obtain ⟨b, rfl⟩ := bi_of sv0 sv1
    have st12 := st10.kp ap (kp11.trans kp12) sr12
    have live := st12.live
    refine ⟨_, rfl, _, rfl, f.a, f.c, f.nl, ns', rfl, sr12, ap.nla, st12.hN, by omega, by omega, hnm', fun l H13 xs mss nl0 kp13 sr13 beg hxl => ?_⟩
    have st13 := st12.kp ap kp13 sr13
    have nlL : ∀ b, l ≠ f.L b := fun b e => (live.2.2.2.2.2 b).1 (by rw [← e]; exact nl0)
    have nlm : ∀ b, l ≠ f.m b := fun b e => (live.2.2.2.2.2 b).2 (by rw [← e]; exact nl0)
    have fre : ∀ ms ∈ mss, ∀ q ∈ ms, ∀ b, q ≠ f.L b ∧ q ≠ f.m b := fun ms hms q hq b => ⟨fun e => (live.2.2.2.2.2 b).1 (by rw [← e]; exact (beg.fr ms hms q hq).1), fun e => (live.2.2.2.2.2 b).2 (by rw [← e]; exact (beg.fr ms hms q hq).1)⟩
    refine ⟨l, rfl, ⟨_, sql_of beg.at_⟩, for_list (K := K) (a := l) (xs := xs) (fun i σ G => ∃ as x7, σ = [some (V.ref sc), some (V.ref f.a), some (V.ref f.CL), some (V.ref f.ML), some (V.ref f.nl), some (V.int fv), some (V.int (bi b)), x7, none, none, none, none, none] ∧ St C D f ns' G as ∧ G l = some (.lst xs) ∧ ∀ j, i ≤ j → ∀ x ms, xs[j]? = some x → mss[j]? = some ms → BI C G x ms) ⟨_, _, rfl, st13, beg.at_, fun j _ x ms hx hms => ?_⟩ (fun i σ G _ ⟨_, _, _, _, e, _⟩ => sql_of e) ?_ ?_⟩
    · obtain ⟨y, hy, hb⟩ := beg.bi.at_ hx
      rw [hms] at hy
      cases hy
      exact hb
    · rintro i x σ G hi ⟨as, x7, rfl, st, hl, hB⟩
      obtain ⟨ms, hms, _⟩ := beg.bi.at_ hi
      have hmem := List.mem_of_getElem? hms
      obtain ⟨t, cl, rfl, hcl, ⟨xs0, hx0, hq0⟩, hw⟩ := hB i (Nat.le_refl _) _ _ hi hms
      obtain ⟨⟨usL, hL, _⟩, _⟩ := st.cr b
      obtain ⟨⟨usm, hm_, _⟩, _⟩ := st.cm b
      obtain ⟨wv, hcw, ⟨us, hus⟩, hwx, hwj, hwl⟩ : ∃ wv, CallW C G t wv cl ∧ (∃ us, G wv = some (.lst us)) ∧ (∀ x, H12 x ≠ none → x ≠ f.L b → x ≠ wv) ∧ (∀ j ms', i < j → mss[j]? = some ms' → ∀ q ∈ ms', q ≠ wv) ∧ l ≠ wv := by
        rcases hw with ⟨e, h1⟩ | ⟨pl, wv, rfl, h1, h2, h3⟩
        · exact ⟨f.L b, h1 _, ⟨_, hL⟩, fun x _ h => h, fun j ms' _ hj q hq => (fre ms' (List.mem_of_getElem? hj) q hq b).1, nlL b⟩
        · refine ⟨wv, h3, h2, fun x hx _ e => hx (by rw [e]; exact (beg.fr _ hmem wv (by simp)).1), fun j ms' hj hj2 q hq e => ?_, ((beg.fr _ hmem wv (by simp)).2.2).symm⟩
          obtain ⟨i1, e1⟩ := List.getElem?_eq_some_iff.mp hms
          obtain ⟨j1, e2⟩ := List.getElem?_eq_some_iff.mp hj2
          have := List.pairwise_iff_getElem.mp beg.ap i j i1 j1 hj
          rw [e1, e2] at this
          exact this wv (by simp) (by rw [← e]; exact hq)
      have hrf : ∀ q, V.ref q ∈ xs0 → q ≠ f.L b ∧ q ≠ f.m b := fun q hq => by
        rcases hq0 q hq with z | ⟨o, z1, z2⟩
        · exact fre _ hmem q z b
        · exact ⟨fun e => (by rw [e, hL] at z1; cases z1; exact z2), fun e => (by rw [e, hm_] at z1; cases z1; exact z2)⟩
      refine ⟨fun σ' H' => ∃ t2 cl2 xs2, σ' = [some (V.ref sc), some (V.ref f.a), some (V.ref f.CL), some (V.ref f.ML), some (V.ref f.nl), some (V.int fv), some (V.int (bi b)), some (.ref t2), none, none, none, none, none] ∧ Same G H' ∧ CallW C H' t2 wv cl2 ∧ ClOk cl2 ∧ H' t2 = some (.tup xs2) ∧ ∀ q, V.ref q ∈ xs2 → q ≠ f.L b ∧ q ≠ f.m b, ?_, ?_⟩
      · rcases callW_head hcw with ⟨w1, lo, hi1, rfl, ht⟩ | ⟨lab, ys, ht, hne⟩
        · refine ⟨_, rfl, t, _, 0, .str "measure", rfl, rfl, sql_ofT ht, at0, rfl, _, rfl, ite2 (fun _ => ⟨_, rfl, t, _, 3, .int hi1, rfl, rfl, sql_ofT ht, rfl, _, rfl, fun r0 z1 z2 => ⟨10, 60, rfl, rfl, ⟨by decide, by decide, by decide⟩, fun bb eb => ⟨_, _, rfl, rfl, _, rfl, ite2 (fun _ => ?_) (fun _ => ?_)⟩⟩⟩) (fun _ => ?_)⟩
          · refine ⟨_, rfl, t, _, 1, .str w1, rfl, rfl, sql_ofT ht, at1, _, rfl, t, _, 2, .int lo, rfl, rfl, sql_ofT ht, rfl, _, rfl, t, _, 2, .int lo, rfl, rfl, sql_ofT ht, rfl, (by show 4 ≤ sizeLine; decide), fun q nq => ⟨q, .st (.me w1 lo lo), _, rfl, same_upd nq, ⟨⟨q, _, rfl, upd_same, rfl⟩, rfl, hcw.2.2⟩, ⟨⟨hcl.1.1, hcl.1.2.1, hcl.1.2.1⟩, hcl.2⟩, upd_same, fun q' hq' => by simp at hq'⟩⟩
          all_goals exact ⟨t, _, xs0, rfl, .refl _, hcw, hcl, hx0, hrf⟩
        · exact ⟨_, rfl, t, _, 0, .str lab, rfl, rfl, sql_ofT ht, at0, rfl, _, rfl, iteF' (decide_eq_false fun e => hne (V.str.inj e)) ⟨t, cl, xs0, rfl, .refl _, hcw, hcl, hx0, hrf⟩⟩
      rintro σ' G2 ⟨t2, cl2, xs2, rfl, s2', hcw2, hcl2, ht2, hrf2⟩
      have stg := st.same ap s2'
      refine ⟨_, rfl, _, rfl, f.CL, _, bi b, _, rfl, rfl, sql_of stg.hC, at_bi f.p b, _, rfl, _, rfl, f.ML, _, bi b, _, rfl, rfl, sql_of stg.hM, at_bi f.m b, _, rfl, f.p b, f.L b, f.m b, t2, wv, as b, cl2, rfl, stg.cp b, stg.cr b, stg.cm b, stg.cg b, stg.ca b, hcw2, hcl2, ap.Lm b b, fun zs q hz hq => ?_, fun H14 as' k3 cr cm cg ca => ⟨true, rfl, iteF' rfl ?_⟩⟩
      · rw [ht2] at hz
        cases hz
        exact hrf2 q hq
      have kt : Kt G2 H14 := fun x o e fx => k3 x o e (fun z => by rw [z, s2' _ _ hL] at e; cases e; exact fx) (fun z => by rw [z, s2' _ _ hm_] at e; cases e; exact fx) (fun z => by rw [z, s2' _ _ hus] at e; cases e; exact fx)
      refine ⟨putB as b as', _, rfl, stg.told ap b (wv := wv) (fun x o e _ n1 n2 n3 => k3 x o e n1 n2 n3) kt (fun x hx => ?_) (stg.sr.k3 k3 (ap.La b).symm (ap.ma b).symm (hwx f.a live.1 (ap.La b).symm) (ap.Lc b).symm (ap.mc b).symm (hwx f.c live.2.1 (ap.Lc b).symm)) cr cm cg ca, k3 _ _ (s2' _ _ hl) (nlL b) (nlm b) hwl, fun j hj x ms' hx hms' => ((hB j (by omega) x ms' hx hms').mono (.same s2') fun q _ o ho => s2' _ _ ho).mono kt fun q hq o ho => k3 _ _ ho (fre ms' (List.mem_of_getElem? hms') q hq b).1 (fre ms' (List.mem_of_getElem? hms') q hq b).2 (hwj j ms' (by omega) hms' q hq)⟩
      simp only [List.mem_cons, List.not_mem_nil, or_false] at hx
      rcases hx with rfl | rfl | rfl | rfl | rfl
      · exact hwx _ live.2.2.1 (ap.CLL b)
      · exact hwx _ live.2.2.2.1 (ap.MLL b)
      · exact hwx _ live.2.2.2.2.1 (ap.nlL b)
      · exact hwx _ (live.2.2.2.2.2 (!b)).1 (ap.LL b)
      · exact hwx _ (live.2.2.2.2.2 (!b)).2 (ap.Lm b (!b)).symm
    clear fre nlL nlm beg live st12 st13 nl0 kp13 sr13 kp12 sr12 kp11 sr11 st10
    rintro σ G ⟨as, x7, rfl, st, _, _⟩
    refine ⟨_, rfl, f.CL, _, 0, _, rfl, rfl, sql_of st.hC, at0, _, rfl, f.ML, _, 0, _, rfl, rfl, sql_of st.hM, at0, f.p false, f.L false, f.m false, _, rfl, st.cp false, st.cr false, st.cm false, st.ca false, fun Ga0 sa0 => ⟨true, rfl, iteF' rfl ?_⟩⟩
    have sta0 := st.same ap sa0
    refine ⟨_, rfl, f.CL, _, 1, _, rfl, rfl, sql_of sta0.hC, at1, _, rfl, f.ML, _, 1, _, rfl, rfl, sql_of sta0.hM, at1, f.p true, f.L true, f.m true, _, rfl, sta0.cp true, sta0.cr true, sta0.cm true, sta0.ca true, fun Ga1 sa1 => ⟨true, rfl, iteF' rfl ?_⟩⟩
    have sta1 := sta0.same ap sa1
    refine ⟨_, rfl, f.a, f.c, 32, rfl, sta1.sr, by decide, by decide, fun dv G3 dv0 dv1 kp3 sr3 => ⟨_, _, rfl, rfl, fun r er => ⟨r, rfl, by omega, by omega, for_range (lo := 0) (n := r.toNat) (fun i σ G => ∃ as x7 x8 x9 x10 x11, σ = [some (V.ref sc), some (V.ref f.a), some (V.ref f.CL), some (V.ref f.ML), some (V.ref f.nl), some (V.int fv), some (V.int (bi b)), x7, x8, x9, x10, x11, none] ∧ St C D f ns' G as) ⟨as, _, _, _, _, _, rfl, sta1.kp ap kp3 sr3⟩ ?_ ?_⟩⟩⟩
    · clear st sta0 sta1 sa0 sa1 kp3 sr3
      rintro i σ G hi ⟨as, x7, x8, x9, x10, x11, rfl, st⟩
      refine ⟨fun σ' H' => ∃ b2, σ' = [some (V.ref sc), some (V.ref f.a), some (V.ref f.CL), some (V.ref f.ML), some (V.ref f.nl), some (V.int fv), some (V.int (bi b)), x7, some (V.int (0 + (i : Int))), some (V.int (bi b2)), x10, x11, none] ∧ St C D f ns' H' as, ?_, ?_⟩
      · refine ⟨_, rfl, f.a, f.c, 4, rfl, st.sr, by decide, by decide, fun t1 G1 _ _ kp1 sr1 => ⟨_, _, rfl, rfl, _, rfl, ite2 (fun _ => ⟨_, rfl, b, rfl, st.kp ap kp1 sr1⟩) (fun _ => ⟨_, rfl, _, _, rfl, rfl, fun q eq => ?_⟩)⟩⟩
        obtain rfl : q = bi (!b) := by rw [eq]; cases b <;> rfl
        exact ⟨!b, rfl, st.kp ap kp1 sr1⟩
      rintro σ' G1 ⟨b2, rfl, st1⟩
      refine ⟨_, rfl, _, rfl, _, rfl, f.ML, _, bi b2, _, rfl, rfl, sql_of st1.hM, at_bi f.m b2, _, rfl, _, rfl, f.a, f.c, f.m b2, f.nl, fv, as b2, ns', rfl, fv0, st1.sr, ap.ma b2, ap.nla, st1.cm b2, st1.cg b2, st1.ca b2, st1.hN, by omega, by omega, hnm', fun t wv cl G2 hcw hcl hwn hdi kp2 sr2 => ?_⟩
      have st2 := st1.kp ap kp2 sr2
      obtain ⟨⟨usL, hL1, _⟩, _⟩ := st1.cr b2
      obtain ⟨⟨usm, hm1', _⟩, _⟩ := st1.cm b2
      obtain ⟨_, hsa⟩ := st1.sr.at_
      have live := st1.live
      have hwx : ∀ x, G1 x ≠ none → x ≠ wv := fun x hx e => hx (by rw [e]; exact hwn)
      have hL2 := kp2 _ _ hL1 (ap.La b2)
      have hm2 := kp2 _ _ hm1' (ap.ma b2)
      refine ⟨_, rfl, _, rfl, f.CL, _, bi b2, _, rfl, rfl, sql_of st2.hC, at_bi f.p b2, _, rfl, _, rfl, f.ML, _, bi b2, _, rfl, rfl, sql_of st2.hM, at_bi f.m b2, _, rfl, f.p b2, f.L b2, f.m b2, t, wv, as b2, cl, rfl, st2.cp b2, st2.cr b2, st2.cm b2, st2.cg b2, st2.ca b2, hcw, hcl, ap.Lm b2 b2, fun zs q hz hq => ?_, fun G4 as' k3 cr cm cg ca => ⟨true, rfl, iteF' rfl ?_⟩⟩
      · rcases hdi zs q hz hq with z | ⟨o, z1, z2⟩
        · exact ⟨fun e => (by rw [e, hL1] at z; cases z), fun e => (by rw [e, hm1'] at z; cases z)⟩
        · exact ⟨fun e => (by rw [e, hL2] at z1; cases z1; exact z2), fun e => (by rw [e, hm2] at z1; cases z1; exact z2)⟩
      have st4 : St C D f ns' G4 (putB as b2 as') := by
        refine st1.told ap b2 (wv := wv) (fun x o e n0 n1 n2 n3 => k3 x o (kp2 x o e n0) n1 n2 n3) (fun x o e fx => k3 x o (kp2 x o e fun z => ?_) (fun z => ?_) (fun z => ?_) (hwx x (by rw [e]; exact (fun z => nomatch z)))) (fun x hx => hwx x ?_) (st2.sr.k3 k3 (ap.La b2).symm (ap.ma b2).symm (hwx f.a live.1) (ap.Lc b2).symm (ap.mc b2).symm (hwx f.c live.2.1)) cr cm cg ca
        · rw [z, hsa] at e; cases e; exact fx
        · rw [z, hL1] at e; cases e; exact fx
        · rw [z, hm1'] at e; cases e; exact fx
        · simp only [List.mem_cons, List.not_mem_nil, or_false] at hx
          rcases hx with rfl | rfl | rfl | rfl | rfl
          · exact live.2.2.1
          · exact live.2.2.2.1
          · exact live.2.2.2.2.1
          · exact (live.2.2.2.2.2 (!b2)).1
          · exact (live.2.2.2.2.2 (!b2)).2
      generalize putB as b2 as' = as4 at st4
      clear hwx live hL2 hm2 hcw hcl hwn hdi st2 st1 hL1 hm1' hsa k3 cr cm cg ca kp2 sr2
      refine ⟨_, rfl, _, rfl, (by show 3 ≤ sizeLine; decide), fun sl nsl => ?_⟩
      have ssl := same_upd (o := .lst [V.str "frame", V.str "", V.str "spoilt"]) nsl
      have st5 := st4.same ap ssl
      obtain ⟨_, hsa4⟩ := st4.sr.at_
      refine ⟨f.a, f.c, f.nl, sl, _, _, rfl, st5.sr, ap.nla, (ne_of_none hsa4 nsl).symm, st5.hN, upd_same, by decide, by rw [nml_len]; omega, by decide, fun xw G6 hxw kp6 sr6 => ?_⟩
      obtain ⟨z, rfl⟩ : ∃ z : Str, xw = .str z := by
        rcases hxw with h | h
        · obtain ⟨z, rfl, _⟩ := nm_word hnm' h
          exact ⟨z, rfl⟩
        · simp only [List.mem_cons, List.not_mem_nil, or_false] at h
          rcases h with rfl | rfl | rfl
          all_goals exact ⟨_, rfl⟩
      have st6 := st5.kp ap kp6 sr6
      obtain ⟨dx, hpd⟩ := st6.cp b2
      refine ⟨_, rfl, _, rfl, _, rfl, f.CL, _, bi b2, _, rfl, rfl, sql_of st6.hC, at_bi f.p b2, f.p b2, dx, _, rfl, hpd, f.p b2, f.L b2, as4 b2, z, rfl, st6.cp b2, st6.cr b2, fun G7 s7 => ⟨_, rfl, ?_⟩⟩
      have st7 := st6.same ap s7
      obtain ⟨⟨ms, hm7, hMA⟩, hsz⟩ := st7.cm b2
      have hml := hMA.len
      refine ⟨_, rfl, _, _, _, _, true, rfl, .ty "bool", .base (.bl _), kit_ty (by decide +kernel), true, rfl, iteF' rfl ?_⟩
      refine ⟨_, rfl, _, rfl, _, rfl, _, rfl, f.ML, _, bi b2, _, rfl, rfl, sql_of st7.hM, at_bi f.m b2, f.m b2, rfl, ⟨_, sql_of hm7⟩, fun Y nY => ?_⟩
      refine lc_pick walk_list (as4 b2) (fun a => (noRu a).map Ac.nm) (fun _ v (z : Str) => v = .str z) (fun _ _ _ _ _ z => z) nY (fun H2 s2 => sql_of (s2 _ _ hm7)) hml (by omega) (fun j y d H5 Yes No hx hd s5 hYes hNo => ?_) (fun G8 zs hY hZ s8 => ?_)
      · obtain ⟨d', hd', hxd⟩ := hMA.at_ hx
        obtain rfl : d' = d := Option.some.inj (hd'.symm.trans hd)
        have hx2 := hxd.kt (.same s5)
        obtain ⟨t1, ws, rfl, ht1, hnn⟩ := hx2.lab
        refine ⟨rfl, _, rfl, t1, _, 0, .str d'.lab, rfl, rfl, sql_ofT ht1, at0, rfl, _, rfl, ite2 (fun e => ?_) (fun e => ?_)⟩
        · have hn := ne_ru e
          obtain ⟨ys2, rfl⟩ := hnn (noRu_some hn).2
          exact ⟨_, rfl, t1, _, 1, .str d'.nm, rfl, rfl, sql_ofT ht1, at1, hYes _ _ d'.nm (by rw [hn]; rfl) (.refl _) rfl⟩
        · exact hNo _ (by rw [eq_ru e]; rfl) (.refl _)
      rw [names_of] at hZ
      obtain rfl := strs_list (H := G8) hZ
      have st8 := st7.same ap s8
      refine ⟨Y, _, rfl, .inl (sql_of hY), rfl, flat_strs _, rfl, _, rfl, iteF' ?_ ?_⟩
      · show (!decide (V.bl (taken (as4 b2) z) = V.bl (inV (.str z) ((namesOf (as4 b2)).map V.str)))) = false
        rw [inV_str]
        unfold taken
        simp
      refine ⟨_, rfl, f.CL, _, 0, _, rfl, rfl, sql_of st8.hC, at0, _, rfl, f.ML, _, 0, _, rfl, rfl, sql_of st8.hM, at0, f.p false, f.L false, f.m false, _, rfl, st8.cp false, st8.cr false, st8.cm false, st8.ca false, fun Gb0 sb0 => ⟨true, rfl, iteF' rfl ?_⟩⟩
      have stb0 := st8.same ap sb0
      refine ⟨_, rfl, f.CL, _, 1, _, rfl, rfl, sql_of stb0.hC, at1, _, rfl, f.ML, _, 1, _, rfl, rfl, sql_of stb0.hM, at1, f.p true, f.L true, f.m true, _, rfl, stb0.cp true, stb0.cr true, stb0.cm true, stb0.ca true, fun Gb1 sb1 => ⟨true, rfl, iteF' rfl ?_⟩⟩
      have stb1 := stb0.same ap sb1
      exact ⟨as4, _, _, _, _, _, rfl, stb1⟩
    · rintro σ G4 ⟨as4, x7, x8, x9, x10, x11, rfl, st4⟩
      exact k G4
end
end DO

namespace DO
open PySem PySem.Spec PyProof.Rows L2
section
variable {P : Program} {w : World} {K : PySem.W.Frag} {mg : Str → Option Value} {base : Heap}
/-! ### the end, for a law whose def asks for repr -/
/-- the law's run behind the top: no repr is under way there -/
theorem law_runG {mb : Str → Option Value} {k : Nat} {fa a : Addr} {fd : FuncData} {x : Str} {sp : Sp} {st : Shared} {vs : List Value} {ns : List Int}
    (inK : K.In st.heap) (gl : st.heap.Ns mainGlobals mg) (bl : st.heap.Ns builtinsNs mb) (boot : ∀ x : Str, x ≠ "__name__" → mb x = bootBuiltins x) (nolim : st.heap.NoLimit) (gens : st.gens = #[])
    (scr : st.heap.get? a = some { cls := .type "list", data := .seq vs.toArray }) (inz : IntsAre vs ns) (sz : ns.length ≤ sizeLine) (room : Room k callerA)
    (F : ∀ base : Heap, K.In base → base.Ns mainGlobals mg → FnG P w K mg base k fa fd [x] sp) (bnd : ∀ (s : Shared) (u : Value), BindsTo s fd ⟨[u], []⟩ [(x, u)])
    (sat : ∀ H : Hp, SqL K H a (ns.map V.int) → sp [.ref a] H (fun v _ => v = .bl true) E0) :
    codeAny (model P w) callerA (.call (.ref fa) ⟨[.ref a], []⟩) (fun r z => r = .ok (.ret (.bool true)) ∧ OldK st.heap z.heap ∧ z.os = st.os ∧ AllBare z.gens) st := by
  have rel := vals_ints inz
  have lv := inz.length
  -- what is tracked: the script alone, where it is no object of the text
  obtain ⟨H, hS, hok, only⟩ : ∃ H : Hp, SqL K H a (ns.map V.int) ∧ HOk P w H st.heap ∧ ∀ b u, H b = some u → b = a ∧ K.lookup a = none ∧ u = .frz { cls := .type "list", data := .seq vs.toArray } (.lst (ns.map V.int)) := by
    cases q : K.lookup a with
    | some ob =>
      have z := inK a ob q
      rw [scr] at z
      obtain rfl := Option.some.inj z
      have size : vs.toArray.size ≤ sizeLine := by rw [List.size_toArray, lv]; exact sz
      refine ⟨fun _ => none, .inr ⟨_, vs.toArray, _, q, rfl, rfl, rfl, size, by simpa using rel⟩, fun _ _ z => ?_, fun _ _ z => ?_⟩
      all_goals
        have z' : (none : Option HO) = some _ := z
        cases z'
    | none =>
      refine ⟨fun b => if b = a then some (.frz { cls := .type "list", data := .seq vs.toArray } (.lst (ns.map V.int))) else none, .inl (.inr ⟨_, if_pos rfl⟩), fun b u z => ?_, fun b u z => ?_⟩
      · dsimp only at z
        by_cases e : b = a
        · rw [if_pos e] at z
          obtain rfl := Option.some.inj z
          rw [e]
          exact ⟨scr, by rw [List.length_map]; exact sz, vs, _, rel, scr⟩
        · rw [if_neg e] at z
          cases z
      · dsimp only at z
        by_cases e : b = a
        · rw [if_pos e] at z
          exact ⟨e, rfl, (Option.some.inj z).symm⟩
        · rw [if_neg e] at z
          cases z
  have free : ∀ b ob, st.heap.get? b = some ob → (∀ ys n, ob.data ≠ .seq ys n) → H b = none := fun b ob z nd => by
    cases q : H b with
    | none => rfl
    | some u =>
      obtain ⟨rfl, _, _⟩ := only b u q
      rw [scr] at z
      obtain rfl := Option.some.inj z
      exact absurd rfl (nd _ _)
  have see : ∀ {b ob}, st.heap.get? b = some ob → H b = none → (hidT st.heap H).get? b = some ob := fun z q => hidT_get z q
  have names : ∀ {b : Addr} {m : Str → Option Value}, st.heap.Ns b m → (hidT st.heap H).Ns b m := fun {b m} z => by
    obtain ⟨ob, es, ep, z1, z2, z3⟩ := z
    refine ⟨ob, es, ep, see z1 (free b ob z1 fun ys n y => ?_), z2, z3⟩
    rw [z2] at y
    cases y
  have inB : K.In (hidT st.heap H) := fun b ob z => see (inK b ob z) (by
    cases q : H b with
    | none => rfl
    | some u =>
      obtain ⟨rfl, y, _⟩ := only b u q
      rw [z] at y
      cases y)
  obtain ⟨ml, l1, l2⟩ := nolim
  have md : Mod K mg (hidT st.heap H) := ⟨inB, names gl, ⟨mb, names bl, boot⟩, ml, names l1, l2⟩
  have env : Env0 P w K mg (hidT st.heap H) callerA [] st H := ⟨rfl, md, fun _ _ z => of_hidT z, Nat.le_of_eq (hidT_size _ _), trivial, fun b z => by simp [frs] at z, hok, .of_eq gens⟩
  have go := (F _ inB (names gl)).run callerA [] st H ⟨[.ref a], []⟩ [.ref a] [.ref a] (fun v _ => v = .bl true) E0 rfl room env (bnd st (.ref a)) (.cons rfl .nil) (sat H hS)
  refine codeAny_mono go ?_
  rintro (er | fl) z hz
  · exact False.elim hz
  cases fl
  case ret u =>
    obtain ⟨v, H2, os2, bare2, un2, ok2, rv, qv⟩ := hz
    have qv' : v = .bl true := qv
    rw [qv'] at rv
    have rv' : u = Value.bool true := rv
    refine ⟨by rw [rv'], OldK.of_keep fun b ob y => ?_, os2, bare2⟩
    cases q : H b with
    | none => exact un2.keep b ob y q (fun m => by simp [frs] at m) (by simp)
    | some t =>
      obtain ⟨rfl, _, rfl⟩ := only b t q
      have t2 := un2.frzs _ _ _ q
      obtain ⟨y2, _⟩ := ok2 _ _ t2
      rw [scr] at y
      obtain rfl := Option.some.inj y
      exact y2
  all_goals exact False.elim hz
theorem kit_self {C : Addr} : PySem.W.kitOne K (.ref C) (.ref C) = some true := by simp [PySem.W.kitOne]
/-- isinstance by an own class: what the written part tells of the two classes -/
theorem kit_cls {t : Value} {C : Addr} {b : Bool} (ne : (t == Value.ref C) = false) (h : PySem.W.isClsIn K C = true) (h2 : PySem.W.typeIn K (.ref C) = some (.type "type")) (h3 : PySem.W.subIn K t (.ref C) = some b) : PySem.W.kitOne K t (.ref C) = some b := by
  have h1 : (PySem.W.clsIn K C).isSome = true := h
  unfold PySem.W.kitOne PySem.W.kitCls
  rw [ne]
  show (if ((PySem.W.clsIn K C).isSome && PySem.W.typeIn K (.ref C) == some (.type "type")) = true then PySem.W.subIn K t (.ref C) else none) = some b
  rw [h1, h2]
  simpa using h3
theorem kit_typ {C : Addr} {T : String} {b : Bool} (hm : PySem.W.kitMeta T = true) (h3 : PySem.W.subIn K (.ref C) (.type T) = some b) : PySem.W.kitOne K (.ref C) (.type T) = some b := by
  have ne : (Value.ref C == Value.type T) = false := Bool.eq_false_iff.mpr fun q => by cases beq_iff_eq.mp q
  unfold PySem.W.kitOne PySem.W.kitCls
  rw [ne]
  show (if PySem.W.kitMeta T = true then PySem.W.subIn K (.ref C) (.type T) else none) = some b
  rw [if_pos hm]
  exact h3
theorem exm_sup {D C : Addr} (hb : PySem.W.subIn K (.ref C) (.type "BaseException") = some true) (h : PySem.W.isClsIn K C = true) (h2 : PySem.W.typeIn K (.ref C) = some (.type "type")) (h3 : PySem.W.subIn K (.ref D) (.ref C) = some true) : PySem.W.exmOne K (.ref D) (.ref C) = some true := by
  have h1 : (PySem.W.clsIn K C).isSome = true := h
  unfold PySem.W.exmOne PySem.W.kitCls
  rw [hb]
  show (if ((PySem.W.clsIn K C).isSome && PySem.W.typeIn K (.ref C) == some (.type "type")) = true then PySem.W.subIn K (.ref D) (.ref C) else none) = some true
  rw [h1, h2]
  simpa using h3
theorem azn_lit : azn = Str.ofString "abcdefghijklmnopqrstuvwxyz0123456789" := by decide +kernel
end
theorem walkG {l : PySem.W.OpenLaw} {q : Program} {loose : List Str} {XP : (Str → Option Value) → Heap → Prop} {YP : World → Heap → Prop} {d : DefRec} {K : Params → PySem.W.Frag} (most : l.most = some 63) (nodf : d.params.defaults = [])
    (inY : ∀ (w : World) (h : Heap), YP w h → (K w.params).In h)
    (F : ∀ (w : World) (mg : Str → Option Value) (fa : Addr) (h : Heap), (K w.params).In h → h.Ns mainGlobals mg → mg d.name = some (.ref fa) →
      ∃ fd : FuncData, (∀ (s : Shared) (u : Value), BindsTo s fd ⟨[u], []⟩ [("_law_script", u)]) ∧ ∀ base : Heap, (K w.params).In base → base.Ns mainGlobals mg → FnG l.prog w (K w.params) mg base 13 fa fd ["_law_script"] (spLaw (K w.params))) :
    PySem.W.WalkO q loose XP YP l.row.toRowW d [] (fun f vs => PySem.call f vs) := by
  refine Att.attach_call most nodf fun w s₀ st mg mb fa o pm cd doc a vs ns G Y ho hd hcd hmg scr inz hlen gens => ?_
  obtain ⟨fd, bnd, hF⟩ := F w mg fa _ (inY w _ Y) G.T.g hmg
  refine law_runG (inY w _ Y) G.T.g G.T.b G.T.builtins G.T.nolimit gens scr inz (Nat.le_trans hlen (by decide)) ⟨rfl, by decide, by decide⟩ hF bnd fun H hS => ?_
  exact ⟨a, ns, rfl, hS, hlen, fun _ => rfl⟩
end DO

namespace DO
open PySem PySem.Spec PyProof.Rows L2
set_option maxHeartbeats 0 in
theorem all_mk {l : PySem.W.OpenLaw} {w : World} {K : PySem.W.Frag} {h : Heap} {mg : Str → Option Value} {fa C D C0 C1 C2 C3 C4 C5 C6 C7 C8 C9 C10 CO pPA pPS pPR kD dW dMS f18 f19 f22 f24 f25 f30 f31 f32 f33 f34 f36 f37 f38 f39 f40 f41 f42 f43 f44 f45 f46 f47 f48 f49 f50 f51 f52 f53 f54 f55 f56 f57 f58 f59 f60 f61 f62 f63 f64 f23 fmI fmA fmM fmR fmD0 fmDI fmD1 fmD2 fmD3 fmD4 fmD5 fmD6 fPA fPS fPR fx0 fx1 fx2 fx3 fx4 fx5 fx6 fx7 fx8 fx9 : Addr} {odW : Option Addr} {nW nMS : Nat} {slW : Array (Option Value)} {esMS : Array DictEntry} {rePA rePS rePR : List Value} {tFR tFS tLS tLN tMR tvM1 tvM2 tvM3 : Tok} {nm0 q0 N0 bs0 sn0 sub0 ab0 col0 dd0 m00 m10 m20 m30 m50 : _} {nm1 q1 N1 bs1 sn1 sub1 ab1 col1 dd1 m01 m11 m21 m31 m51 : _} {nm2 q2 N2 bs2 sn2 sub2 ab2 col2 dd2 m02 m12 m22 m32 m52 : _} {nm3 q3 N3 bs3 sn3 sub3 ab3 col3 dd3 m03 m13 m23 m33 m53 : _} {nm4 q4 N4 bs4 sn4 sub4 ab4 col4 dd4 m04 m14 m24 m34 m54 : _} {nm5 q5 N5 bs5 sn5 sub5 ab5 col5 dd5 m05 m15 m25 m35 m55 : _} {nm6 q6 N6 bs6 sn6 sub6 ab6 col6 dd6 m06 m16 m26 m36 m56 : _} {nm7 q7 N7 bs7 sn7 sub7 ab7 col7 dd7 m07 m17 m27 m37 m57 : _} {nm8 q8 N8 bs8 sn8 sub8 ab8 col8 dd8 m08 m18 m28 m38 m58 : _} {nm9 q9 N9 bs9 sn9 sub9 ab9 col9 dd9 m09 m19 m29 m39 m59 : _} (X : K.In h) (G : h.Ns mainGlobals mg) (hfa : mg "law" = some (.ref fa))
    {od18 an18 : Option Addr} {sl18 : Array (Option Value)} {oc18 kV18 dc18 pm18 cd18 ct18 : Value} {od19 an19 : Option Addr} {sl19 : Array (Option Value)} {oc19 kV19 dc19 pm19 cd19 ct19 : Value} {od22 an22 : Option Addr} {sl22 : Array (Option Value)} {oc22 kV22 dc22 pm22 cd22 ct22 : Value} {od24 an24 : Option Addr} {sl24 : Array (Option Value)} {oc24 kV24 dc24 pm24 cd24 ct24 : Value} {od25 an25 : Option Addr} {sl25 : Array (Option Value)} {oc25 kV25 dc25 pm25 cd25 ct25 : Value} {od30 an30 : Option Addr} {sl30 : Array (Option Value)} {oc30 kV30 dc30 pm30 cd30 ct30 : Value} {od31 an31 : Option Addr} {sl31 : Array (Option Value)} {oc31 kV31 dc31 pm31 cd31 ct31 : Value} {od32 an32 : Option Addr} {sl32 : Array (Option Value)} {oc32 kV32 dc32 pm32 cd32 ct32 : Value} {od33 an33 : Option Addr} {sl33 : Array (Option Value)} {oc33 kV33 dc33 pm33 cd33 ct33 : Value} {od34 an34 : Option Addr} {sl34 : Array (Option Value)} {oc34 kV34 dc34 pm34 cd34 ct34 : Value} {od36 an36 : Option Addr} {sl36 : Array (Option Value)} {oc36 kV36 dc36 pm36 cd36 ct36 : Value} {od37 an37 : Option Addr} {sl37 : Array (Option Value)} {oc37 kV37 dc37 pm37 cd37 ct37 : Value} {od38 an38 : Option Addr} {sl38 : Array (Option Value)} {oc38 kV38 dc38 pm38 cd38 ct38 : Value} {od39 an39 : Option Addr} {sl39 : Array (Option Value)} {oc39 kV39 dc39 pm39 cd39 ct39 : Value} {od40 an40 : Option Addr} {sl40 : Array (Option Value)} {oc40 kV40 dc40 pm40 cd40 ct40 : Value} {od41 an41 : Option Addr} {sl41 : Array (Option Value)} {oc41 kV41 dc41 pm41 cd41 ct41 : Value} {od42 an42 : Option Addr} {sl42 : Array (Option Value)} {oc42 kV42 dc42 pm42 cd42 ct42 : Value} {od43 an43 : Option Addr} {sl43 : Array (Option Value)} {oc43 kV43 dc43 pm43 cd43 ct43 : Value} {od44 an44 : Option Addr} {sl44 : Array (Option Value)} {oc44 kV44 dc44 pm44 cd44 ct44 : Value} {od45 an45 : Option Addr} {sl45 : Array (Option Value)} {oc45 kV45 dc45 pm45 cd45 ct45 : Value} {od46 an46 : Option Addr} {sl46 : Array (Option Value)} {oc46 kV46 dc46 pm46 cd46 ct46 : Value} {od47 an47 : Option Addr} {sl47 : Array (Option Value)} {oc47 kV47 dc47 pm47 cd47 ct47 : Value} {od48 an48 : Option Addr} {sl48 : Array (Option Value)} {oc48 kV48 dc48 pm48 cd48 ct48 : Value} {od49 an49 : Option Addr} {sl49 : Array (Option Value)} {oc49 kV49 dc49 pm49 cd49 ct49 : Value} {od50 an50 : Option Addr} {sl50 : Array (Option Value)} {oc50 kV50 dc50 pm50 cd50 ct50 : Value} {od51 an51 : Option Addr} {sl51 : Array (Option Value)} {oc51 kV51 dc51 pm51 cd51 ct51 : Value} {od52 an52 : Option Addr} {sl52 : Array (Option Value)} {oc52 kV52 dc52 pm52 cd52 ct52 : Value} {od53 an53 : Option Addr} {sl53 : Array (Option Value)} {oc53 kV53 dc53 pm53 cd53 ct53 : Value} {od54 an54 : Option Addr} {sl54 : Array (Option Value)} {oc54 kV54 dc54 pm54 cd54 ct54 : Value} {od55 an55 : Option Addr} {sl55 : Array (Option Value)} {oc55 kV55 dc55 pm55 cd55 ct55 : Value} {od56 an56 : Option Addr} {sl56 : Array (Option Value)} {oc56 kV56 dc56 pm56 cd56 ct56 : Value} {od57 an57 : Option Addr} {sl57 : Array (Option Value)} {oc57 kV57 dc57 pm57 cd57 ct57 : Value} {od58 an58 : Option Addr} {sl58 : Array (Option Value)} {oc58 kV58 dc58 pm58 cd58 ct58 : Value} {od59 an59 : Option Addr} {sl59 : Array (Option Value)} {oc59 kV59 dc59 pm59 cd59 ct59 : Value} {od60 an60 : Option Addr} {sl60 : Array (Option Value)} {oc60 kV60 dc60 pm60 cd60 ct60 : Value} {od61 an61 : Option Addr} {sl61 : Array (Option Value)} {oc61 kV61 dc61 pm61 cd61 ct61 : Value} {od62 an62 : Option Addr} {sl62 : Array (Option Value)} {oc62 kV62 dc62 pm62 cd62 ct62 : Value} {od63 an63 : Option Addr} {sl63 : Array (Option Value)} {oc63 kV63 dc63 pm63 cd63 ct63 : Value} {od64 an64 : Option Addr} {sl64 : Array (Option Value)} {oc64 kV64 dc64 pm64 cd64 ct64 : Value} {od23 an23 : Option Addr} {sl23 : Array (Option Value)} {oc23 kV23 dc23 pm23 cd23 ct23 : Value} {odmI anmI : Option Addr} {slmI : Array (Option Value)} {ocmI kVmI dcmI pmmI cdmI ctmI : Value} {odmA anmA : Option Addr} {slmA : Array (Option Value)} {ocmA kVmA dcmA pmmA cdmA ctmA : Value} {odmM anmM : Option Addr} {slmM : Array (Option Value)} {ocmM kVmM dcmM pmmM cdmM ctmM : Value} {odmR anmR : Option Addr} {slmR : Array (Option Value)} {ocmR kVmR dcmR pmmR cdmR ctmR : Value} {odmD0 anmD0 : Option Addr} {slmD0 : Array (Option Value)} {ocmD0 kVmD0 dcmD0 pmmD0 cdmD0 ctmD0 : Value} {odmDI anmDI : Option Addr} {slmDI : Array (Option Value)} {ocmDI kVmDI dcmDI pmmDI cdmDI ctmDI : Value} {odmD1 anmD1 : Option Addr} {slmD1 : Array (Option Value)} {ocmD1 kVmD1 dcmD1 pmmD1 cdmD1 ctmD1 : Value} {odmD2 anmD2 : Option Addr} {slmD2 : Array (Option Value)} {ocmD2 kVmD2 dcmD2 pmmD2 cdmD2 ctmD2 : Value} {odmD3 anmD3 : Option Addr} {slmD3 : Array (Option Value)} {ocmD3 kVmD3 dcmD3 pmmD3 cdmD3 ctmD3 : Value} {odmD4 anmD4 : Option Addr} {slmD4 : Array (Option Value)} {ocmD4 dcmD4 pmmD4 cdmD4 ctmD4 : Value} {odmD5 anmD5 : Option Addr} {slmD5 : Array (Option Value)} {ocmD5 kVmD5 dcmD5 pmmD5 cdmD5 ctmD5 : Value} {odmD6 anmD6 : Option Addr} {slmD6 : Array (Option Value)} {ocmD6 kVmD6 dcmD6 pmmD6 cdmD6 ctmD6 : Value} {odPA anPA : Option Addr} {slPA : Array (Option Value)} {ocPA kVPA dcPA pmPA cdPA ctPA : Value} {odPS anPS : Option Addr} {slPS : Array (Option Value)} {ocPS kVPS dcPS pmPS cdPS ctPS : Value} {odPR anPR : Option Addr} {slPR : Array (Option Value)} {ocPR kVPR dcPR pmPR cdPR ctPR : Value} {odx0 anx0 : Option Addr} {slx0 : Array (Option Value)} {ocx0 kVx0 dcx0 pmx0 cdx0 ctx0 : Value} {odx1 anx1 : Option Addr} {slx1 : Array (Option Value)} {ocx1 kVx1 dcx1 pmx1 cdx1 ctx1 : Value} {odx2 anx2 : Option Addr} {slx2 : Array (Option Value)} {ocx2 kVx2 dcx2 pmx2 cdx2 ctx2 : Value} {odx3 anx3 : Option Addr} {slx3 : Array (Option Value)} {ocx3 kVx3 dcx3 pmx3 cdx3 ctx3 : Value} {odx4 anx4 : Option Addr} {slx4 : Array (Option Value)} {ocx4 kVx4 dcx4 pmx4 cdx4 ctx4 : Value} {odx5 anx5 : Option Addr} {slx5 : Array (Option Value)} {ocx5 kVx5 dcx5 pmx5 cdx5 ctx5 : Value} {odx6 anx6 : Option Addr} {slx6 : Array (Option Value)} {ocx6 kVx6 dcx6 pmx6 cdx6 ctx6 : Value} {odx7 anx7 : Option Addr} {slx7 : Array (Option Value)} {ocx7 kVx7 dcx7 pmx7 cdx7 ctx7 : Value} {odx8 anx8 : Option Addr} {slx8 : Array (Option Value)} {ocx8 kVx8 dcx8 pmx8 cdx8 ctx8 : Value} {odx9 anx9 : Option Addr} {slx9 : Array (Option Value)} {ocx9 kVx9 dcx9 pmx9 cdx9 ctx9 : Value}
    (a18 : PySem.W.nsIn K mainGlobals "is_name" = some (some (.ref f18))) (l18 : K.lookup f18 = some ⟨oc18, od18, .func (PySem.W.fnOf "is_name" "is_name" (defArgs sIsNm) (defBody sIsNm) (defScope sIsNm) .none kV18 dc18 pm18 an18 cd18 ct18), sl18⟩) (c18 : PySem.W.codeIn K cd18 "is_name" = true) (k18 : PySem.W.keepIn K (.ref f18) = true)
    (a19 : PySem.W.nsIn K mainGlobals "check_name" = some (some (.ref f19))) (l19 : K.lookup f19 = some ⟨oc19, od19, .func (PySem.W.fnOf "check_name" "check_name" (defArgs sChn) (defBody sChn) (defScope sChn) .none kV19 dc19 pm19 an19 cd19 ct19), sl19⟩) (c19 : PySem.W.codeIn K cd19 "check_name" = true) (k19 : PySem.W.keepIn K (.ref f19) = true)
    (a22 : PySem.W.nsIn K mainGlobals "form_of" = some (some (.ref f22))) (l22 : K.lookup f22 = some ⟨oc22, od22, .func (PySem.W.fnOf "form_of" "form_of" (defArgs sFof) (defBody sFof) (defScope sFof) .none kV22 dc22 pm22 an22 cd22 ct22), sl22⟩) (c22 : PySem.W.codeIn K cd22 "form_of" = true) (k22 : PySem.W.keepIn K (.ref f22) = true)
    (a24 : PySem.W.nsIn K mainGlobals "_check_ends" = some (some (.ref f24))) (l24 : K.lookup f24 = some ⟨oc24, od24, .func (PySem.W.fnOf "_check_ends" "_check_ends" (defArgs sChk) (defBody sChk) (defScope sChk) .none kV24 dc24 pm24 an24 cd24 ct24), sl24⟩) (c24 : PySem.W.codeIn K cd24 "_check_ends" = true) (k24 : PySem.W.keepIn K (.ref f24) = true)
    (a25 : PySem.W.nsIn K mainGlobals "_added" = some (some (.ref f25))) (l25 : K.lookup f25 = some ⟨oc25, od25, .func (PySem.W.fnOf "_added" "_added" (defArgs sAdded) (defBody sAdded) (defScope sAdded) .none kV25 dc25 pm25 an25 cd25 ct25), sl25⟩) (c25 : PySem.W.codeIn K cd25 "_added" = true) (k25 : PySem.W.keepIn K (.ref f25) = true)
    (a30 : PySem.W.nsIn K mainGlobals "sorted_when" = some (some (.ref f30))) (l30 : K.lookup f30 = some ⟨oc30, od30, .func (PySem.W.fnOf "sorted_when" "sorted_when" (defArgs sSwh) (defBody sSwh) (defScope sSwh) .none kV30 dc30 pm30 an30 cd30 ct30), sl30⟩) (c30 : PySem.W.codeIn K cd30 "sorted_when" = true) (k30 : PySem.W.keepIn K (.ref f30) = true)
    (a31 : PySem.W.nsIn K mainGlobals "_check_new_name" = some (some (.ref f31))) (l31 : K.lookup f31 = some ⟨oc31, od31, .func (PySem.W.fnOf "_check_new_name" "_check_new_name" (defArgs sCnn) (defBody sCnn) (defScope sCnn) .none kV31 dc31 pm31 an31 cd31 ct31), sl31⟩) (c31 : PySem.W.codeIn K cd31 "_check_new_name" = true) (k31 : PySem.W.keepIn K (.ref f31) = true)
    (a32 : PySem.W.nsIn K mainGlobals "_check_room" = some (some (.ref f32))) (l32 : K.lookup f32 = some ⟨oc32, od32, .func (PySem.W.fnOf "_check_room" "_check_room" (defArgs sCro) (defBody sCro) (defScope sCro) .none kV32 dc32 pm32 an32 cd32 ct32), sl32⟩) (c32 : PySem.W.codeIn K cd32 "_check_room" = true) (k32 : PySem.W.keepIn K (.ref f32) = true)
    (a33 : PySem.W.nsIn K mainGlobals "_check_measures" = some (some (.ref f33))) (l33 : K.lookup f33 = some ⟨oc33, od33, .func (PySem.W.fnOf "_check_measures" "_check_measures" (defArgs sCme) (defBody sCme) (defScope sCme) .none kV33 dc33 pm33 an33 cd33 ct33), sl33⟩) (c33 : PySem.W.codeIn K cd33 "_check_measures" = true) (k33 : PySem.W.keepIn K (.ref f33) = true)
    (a34 : PySem.W.nsIn K mainGlobals "_checked_when" = some (some (.ref f34))) (l34 : K.lookup f34 = some ⟨oc34, od34, .func (PySem.W.fnOf "_checked_when" "_checked_when" (defArgs sCwh) (defBody sCwh) (defScope sCwh) .none kV34 dc34 pm34 an34 cd34 ct34), sl34⟩) (c34 : PySem.W.codeIn K cd34 "_checked_when" = true) (k34 : PySem.W.keepIn K (.ref f34) = true)
    (a36 : PySem.W.nsIn K mainGlobals "_law_mixed" = some (some (.ref f36))) (l36 : K.lookup f36 = some ⟨oc36, od36, .func (PySem.W.fnOf "_law_mixed" "_law_mixed" (defArgs sMixed) (defBody sMixed) (defScope sMixed) .none kV36 dc36 pm36 an36 cd36 ct36), sl36⟩) (c36 : PySem.W.codeIn K cd36 "_law_mixed" = true) (k36 : PySem.W.keepIn K (.ref f36) = true)
    (a37 : PySem.W.nsIn K mainGlobals "_law_source" = some (some (.ref f37))) (l37 : K.lookup f37 = some ⟨oc37, od37, .func (PySem.W.fnOf "_law_source" "_law_source" (defArgs sSource) (defBody sSource) (defScope sSource) .none kV37 dc37 pm37 an37 cd37 ct37), sl37⟩) (c37 : PySem.W.codeIn K cd37 "_law_source" = true) (k37 : PySem.W.keepIn K (.ref f37) = true)
    (a38 : PySem.W.nsIn K mainGlobals "_law_take" = some (some (.ref f38))) (l38 : K.lookup f38 = some ⟨oc38, od38, .func (PySem.W.fnOf "_law_take" "_law_take" (defArgs sTake) (defBody sTake) (defScope sTake) .none kV38 dc38 pm38 an38 cd38 ct38), sl38⟩) (c38 : PySem.W.codeIn K cd38 "_law_take" = true) (k38 : PySem.W.keepIn K (.ref f38) = true)
    (a39 : PySem.W.nsIn K mainGlobals "_law_word" = some (some (.ref f39))) (l39 : K.lookup f39 = some ⟨oc39, od39, .func (PySem.W.fnOf "_law_word" "_law_word" (defArgs sWord) (defBody sWord) (defScope sWord) .none kV39 dc39 pm39 an39 cd39 ct39), sl39⟩) (c39 : PySem.W.codeIn K cd39 "_law_word" = true) (k39 : PySem.W.keepIn K (.ref f39) = true)
    (a40 : PySem.W.nsIn K mainGlobals "_law_names" = some (some (.ref f40))) (l40 : K.lookup f40 = some ⟨oc40, od40, .func (PySem.W.fnOf "_law_names" "_law_names" (defArgs sNames) (defBody sNames) (defScope sNames) .none kV40 dc40 pm40 an40 cd40 ct40), sl40⟩) (c40 : PySem.W.codeIn K cd40 "_law_names" = true) (k40 : PySem.W.keepIn K (.ref f40) = true)
    (a41 : PySem.W.nsIn K mainGlobals "_law_number" = some (some (.ref f41))) (l41 : K.lookup f41 = some ⟨oc41, od41, .func (PySem.W.fnOf "_law_number" "_law_number" (defArgs sNumber) (defBody sNumber) (defScope sNumber) .none kV41 dc41 pm41 an41 cd41 ct41), sl41⟩) (c41 : PySem.W.codeIn K cd41 "_law_number" = true) (k41 : PySem.W.keepIn K (.ref f41) = true)
    (a42 : PySem.W.nsIn K mainGlobals "_law_is_number" = some (some (.ref f42))) (l42 : K.lookup f42 = some ⟨oc42, od42, .func (PySem.W.fnOf "_law_is_number" "_law_is_number" (defArgs sIsN) (defBody sIsN) (defScope sIsN) .none kV42 dc42 pm42 an42 cd42 ct42), sl42⟩) (c42 : PySem.W.codeIn K cd42 "_law_is_number" = true) (k42 : PySem.W.keepIn K (.ref f42) = true)
    (a43 : PySem.W.nsIn K mainGlobals "_law_is_name" = some (some (.ref f43))) (l43 : K.lookup f43 = some ⟨oc43, od43, .func (PySem.W.fnOf "_law_is_name" "_law_is_name" (defArgs sLnm) (defBody sLnm) (defScope sLnm) .none kV43 dc43 pm43 an43 cd43 ct43), sl43⟩) (c43 : PySem.W.codeIn K cd43 "_law_is_name" = true) (k43 : PySem.W.keepIn K (.ref f43) = true)
    (a44 : PySem.W.nsIn K mainGlobals "_law_same_form" = some (some (.ref f44))) (l44 : K.lookup f44 = some ⟨oc44, od44, .func (PySem.W.fnOf "_law_same_form" "_law_same_form" (defArgs sSfo) (defBody sSfo) (defScope sSfo) .none kV44 dc44 pm44 an44 cd44 ct44), sl44⟩) (c44 : PySem.W.codeIn K cd44 "_law_same_form" = true) (k44 : PySem.W.keepIn K (.ref f44) = true)
    (a45 : PySem.W.nsIn K mainGlobals "_law_same_rule" = some (some (.ref f45))) (l45 : K.lookup f45 = some ⟨oc45, od45, .func (PySem.W.fnOf "_law_same_rule" "_law_same_rule" (defArgs sSru) (defBody sSru) (defScope sSru) .none kV45 dc45 pm45 an45 cd45 ct45), sl45⟩) (c45 : PySem.W.codeIn K cd45 "_law_same_rule" = true) (k45 : PySem.W.keepIn K (.ref f45) = true)
    (a46 : PySem.W.nsIn K mainGlobals "_law_same_act" = some (some (.ref f46))) (l46 : K.lookup f46 = some ⟨oc46, od46, .func (PySem.W.fnOf "_law_same_act" "_law_same_act" (defArgs sSac) (defBody sSac) (defScope sSac) .none kV46 dc46 pm46 an46 cd46 ct46), sl46⟩) (c46 : PySem.W.codeIn K cd46 "_law_same_act" = true) (k46 : PySem.W.keepIn K (.ref f46) = true)
    (a47 : PySem.W.nsIn K mainGlobals "_law_same_card" = some (some (.ref f47))) (l47 : K.lookup f47 = some ⟨oc47, od47, .func (PySem.W.fnOf "_law_same_card" "_law_same_card" (defArgs sSca) (defBody sSca) (defScope sSca) .none kV47 dc47 pm47 an47 cd47 ct47), sl47⟩) (c47 : PySem.W.codeIn K cd47 "_law_same_card" = true) (k47 : PySem.W.keepIn K (.ref f47) = true)
    (a48 : PySem.W.nsIn K mainGlobals "_law_ends_of" = some (some (.ref f48))) (l48 : K.lookup f48 = some ⟨oc48, od48, .func (PySem.W.fnOf "_law_ends_of" "_law_ends_of" (defArgs sLeo) (defBody sLeo) (defScope sLeo) .none kV48 dc48 pm48 an48 cd48 ct48), sl48⟩) (c48 : PySem.W.codeIn K cd48 "_law_ends_of" = true) (k48 : PySem.W.keepIn K (.ref f48) = true)
    (a49 : PySem.W.nsIn K mainGlobals "_law_options_of" = some (some (.ref f49))) (l49 : K.lookup f49 = some ⟨oc49, od49, .func (PySem.W.fnOf "_law_options_of" "_law_options_of" (defArgs sLoo) (defBody sLoo) (defScope sLoo) .none kV49 dc49 pm49 an49 cd49 ct49), sl49⟩) (c49 : PySem.W.codeIn K cd49 "_law_options_of" = true) (k49 : PySem.W.keepIn K (.ref f49) = true)
    (a50 : PySem.W.nsIn K mainGlobals "_law_step_due" = some (some (.ref f50))) (l50 : K.lookup f50 = some ⟨oc50, od50, .func (PySem.W.fnOf "_law_step_due" "_law_step_due" (defArgs sSdu) (defBody sSdu) (defScope sSdu) .none kV50 dc50 pm50 an50 cd50 ct50), sl50⟩) (c50 : PySem.W.codeIn K cd50 "_law_step_due" = true) (k50 : PySem.W.keepIn K (.ref f50) = true)
    (a51 : PySem.W.nsIn K mainGlobals "_law_rule_due" = some (some (.ref f51))) (l51 : K.lookup f51 = some ⟨oc51, od51, .func (PySem.W.fnOf "_law_rule_due" "_law_rule_due" (defArgs sRdu) (defBody sRdu) (defScope sRdu) .none kV51 dc51 pm51 an51 cd51 ct51), sl51⟩) (c51 : PySem.W.codeIn K cd51 "_law_rule_due" = true) (k51 : PySem.W.keepIn K (.ref f51) = true)
    (a52 : PySem.W.nsIn K mainGlobals "_law_raised" = some (some (.ref f52))) (l52 : K.lookup f52 = some ⟨oc52, od52, .func (PySem.W.fnOf "_law_raised" "_law_raised" (defArgs sRai) (defBody sRai) (defScope sRai) .none kV52 dc52 pm52 an52 cd52 ct52), sl52⟩) (c52 : PySem.W.codeIn K cd52 "_law_raised" = true) (k52 : PySem.W.keepIn K (.ref f52) = true)
    (a53 : PySem.W.nsIn K mainGlobals "_law_call" = some (some (.ref f53))) (l53 : K.lookup f53 = some ⟨oc53, od53, .func (PySem.W.fnOf "_law_call" "_law_call" (defArgs sCal) (defBody sCal) (defScope sCal) .none kV53 dc53 pm53 an53 cd53 ct53), sl53⟩) (c53 : PySem.W.codeIn K cd53 "_law_call" = true) (k53 : PySem.W.keepIn K (.ref f53) = true)
    (a54 : PySem.W.nsIn K mainGlobals "_law_pairs_in_order" = some (some (.ref f54))) (l54 : K.lookup f54 = some ⟨oc54, od54, .func (PySem.W.fnOf "_law_pairs_in_order" "_law_pairs_in_order" (defArgs sPio) (defBody sPio) (defScope sPio) .none kV54 dc54 pm54 an54 cd54 ct54), sl54⟩) (c54 : PySem.W.codeIn K cd54 "_law_pairs_in_order" = true) (k54 : PySem.W.keepIn K (.ref f54) = true)
    (a55 : PySem.W.nsIn K mainGlobals "_law_act" = some (some (.ref f55))) (l55 : K.lookup f55 = some ⟨oc55, od55, .func (PySem.W.fnOf "_law_act" "_law_act" (defArgs sAct) (defBody sAct) (defScope sAct) .none kV55 dc55 pm55 an55 cd55 ct55), sl55⟩) (c55 : PySem.W.codeIn K cd55 "_law_act" = true) (k55 : PySem.W.keepIn K (.ref f55) = true)
    (a56 : PySem.W.nsIn K mainGlobals "_law_told" = some (some (.ref f56))) (l56 : K.lookup f56 = some ⟨oc56, od56, .func (PySem.W.fnOf "_law_told" "_law_told" (defArgs sTol) (defBody sTol) (defScope sTol) .none kV56 dc56 pm56 an56 cd56 ct56), sl56⟩) (c56 : PySem.W.codeIn K cd56 "_law_told" = true) (k56 : PySem.W.keepIn K (.ref f56) = true)
    (a57 : PySem.W.nsIn K mainGlobals "_law_any" = some (some (.ref f57))) (l57 : K.lookup f57 = some ⟨oc57, od57, .func (PySem.W.fnOf "_law_any" "_law_any" (defArgs sAny) (defBody sAny) (defScope sAny) .none kV57 dc57 pm57 an57 cd57 ct57), sl57⟩) (c57 : PySem.W.codeIn K cd57 "_law_any" = true) (k57 : PySem.W.keepIn K (.ref f57) = true)
    (a58 : PySem.W.nsIn K mainGlobals "_law_step_call" = some (some (.ref f58))) (l58 : K.lookup f58 = some ⟨oc58, od58, .func (PySem.W.fnOf "_law_step_call" "_law_step_call" (defArgs sScl) (defBody sScl) (defScope sScl) .none kV58 dc58 pm58 an58 cd58 ct58), sl58⟩) (c58 : PySem.W.codeIn K cd58 "_law_step_call" = true) (k58 : PySem.W.keepIn K (.ref f58) = true)
    (a59 : PySem.W.nsIn K mainGlobals "_law_near_ends" = some (some (.ref f59))) (l59 : K.lookup f59 = some ⟨oc59, od59, .func (PySem.W.fnOf "_law_near_ends" "_law_near_ends" (defArgs sNen) (defBody sNen) (defScope sNen) .none kV59 dc59 pm59 an59 cd59 ct59), sl59⟩) (c59 : PySem.W.codeIn K cd59 "_law_near_ends" = true) (k59 : PySem.W.keepIn K (.ref f59) = true)
    (a60 : PySem.W.nsIn K mainGlobals "_law_form_draw" = some (some (.ref f60))) (l60 : K.lookup f60 = some ⟨oc60, od60, .func (PySem.W.fnOf "_law_form_draw" "_law_form_draw" (defArgs sFdr) (defBody sFdr) (defScope sFdr) .none kV60 dc60 pm60 an60 cd60 ct60), sl60⟩) (c60 : PySem.W.codeIn K cd60 "_law_form_draw" = true) (k60 : PySem.W.keepIn K (.ref f60) = true)
    (a61 : PySem.W.nsIn K mainGlobals "_law_rule_call" = some (some (.ref f61))) (l61 : K.lookup f61 = some ⟨oc61, od61, .func (PySem.W.fnOf "_law_rule_call" "_law_rule_call" (defArgs sRcl) (defBody sRcl) (defScope sRcl) .none kV61 dc61 pm61 an61 cd61 ct61), sl61⟩) (c61 : PySem.W.codeIn K cd61 "_law_rule_call" = true) (k61 : PySem.W.keepIn K (.ref f61) = true)
    (a62 : PySem.W.nsIn K mainGlobals "_law_draw_call" = some (some (.ref f62))) (l62 : K.lookup f62 = some ⟨oc62, od62, .func (PySem.W.fnOf "_law_draw_call" "_law_draw_call" (defArgs sDrc) (defBody sDrc) (defScope sDrc) .none kV62 dc62 pm62 an62 cd62 ct62), sl62⟩) (c62 : PySem.W.codeIn K cd62 "_law_draw_call" = true) (k62 : PySem.W.keepIn K (.ref f62) = true)
    (a63 : PySem.W.nsIn K mainGlobals "_law_beginning" = some (some (.ref f63))) (l63 : K.lookup f63 = some ⟨oc63, od63, .func (PySem.W.fnOf "_law_beginning" "_law_beginning" (defArgs sBeg) (defBody sBeg) (defScope sBeg) .none kV63 dc63 pm63 an63 cd63 ct63), sl63⟩) (c63 : PySem.W.codeIn K cd63 "_law_beginning" = true) (k63 : PySem.W.keepIn K (.ref f63) = true)
    (a64 : PySem.W.nsIn K mainGlobals "law" = some (some (.ref f64))) (l64 : K.lookup f64 = some ⟨oc64, od64, .func (PySem.W.fnOf "law" "law" (defArgs sLaw) (defBody sLaw) (defScope sLaw) .none kV64 dc64 pm64 an64 cd64 ct64), sl64⟩) (c64 : PySem.W.codeIn K cd64 "law" = true) (k64 : PySem.W.keepIn K (.ref f64) = true)
    (a23 : PySem.W.nsIn K mainGlobals "measured" = some (some (.ref f23))) (l23 : K.lookup f23 = some ⟨oc23, od23, .func (PySem.W.fnOf "measured" "measured" (defArgs sMea) (defBody sMea) (defScope sMea) .none kV23 dc23 pm23 an23 cd23 ct23), sl23⟩) (c23 : PySem.W.codeIn K cd23 "measured" = true) (k23 : PySem.W.keepIn K (.ref f23) = true)
    (amI : PySem.W.findIn K (.ref C) "__init__" = some (some (.ref fmI))) (imI : PySem.W.isFn K (.ref fmI) = true) (lmI : K.lookup fmI = some ⟨ocmI, odmI, .func (PySem.W.fnOf "__init__" "Form.__init__" (defArgs sIni) (defBody sIni) (defScope sIni) .none kVmI dcmI pmmI anmI cdmI ctmI), slmI⟩) (cmI : PySem.W.codeIn K cdmI "Form.__init__" = true) (kmI : PySem.W.keepIn K (.ref fmI) = true)
    (amA : PySem.W.findIn K (.ref C) "__add__" = some (some (.ref fmA))) (imA : PySem.W.isFn K (.ref fmA) = true) (lmA : K.lookup fmA = some ⟨ocmA, odmA, .func (PySem.W.fnOf "__add__" "Form.__add__" (defArgs sAdd) (defBody sAdd) (defScope sAdd) .none kVmA dcmA pmmA anmA cdmA ctmA), slmA⟩) (cmA : PySem.W.codeIn K cdmA "Form.__add__" = true) (kmA : PySem.W.keepIn K (.ref fmA) = true)
    (amM : PySem.W.findIn K (.ref C) "__mul__" = some (some (.ref fmM))) (imM : PySem.W.isFn K (.ref fmM) = true) (lmM : K.lookup fmM = some ⟨ocmM, odmM, .func (PySem.W.fnOf "__mul__" "Form.__mul__" (defArgs sMul) (defBody sMul) (defScope sMul) .none kVmM dcmM pmmM anmM cdmM ctmM), slmM⟩) (cmM : PySem.W.codeIn K cdmM "Form.__mul__" = true) (kmM : PySem.W.keepIn K (.ref fmM) = true)
    (amR : PySem.W.findIn K (.ref C) "__rmul__" = some (some (.ref fmR))) (imR : PySem.W.isFn K (.ref fmR) = true) (lmR : K.lookup fmR = some ⟨ocmR, odmR, .func (PySem.W.fnOf "__rmul__" "Form.__rmul__" (defArgs sRmu) (defBody sRmu) (defScope sRmu) .none kVmR dcmR pmmR anmR cdmR ctmR), slmR⟩) (cmR : PySem.W.codeIn K cdmR "Form.__rmul__" = true) (kmR : PySem.W.keepIn K (.ref fmR) = true)
    (amD0 : PySem.W.findIn K (.ref D) "__init__" = some (some (.ref fmD0))) (imD0 : PySem.W.isFn K (.ref fmD0) = true) (lmD0 : K.lookup fmD0 = some ⟨ocmD0, odmD0, .func (PySem.W.fnOf "__init__" "Card.__init__" (defArgs sCini) (defBody sCini) (defScope sCini) .none kVmD0 dcmD0 pmmD0 anmD0 cdmD0 ctmD0), slmD0⟩) (cmD0 : PySem.W.codeIn K cdmD0 "Card.__init__" = true) (kmD0 : PySem.W.keepIn K (.ref fmD0) = true)
    (amDI : PySem.W.findIn K (.ref D) "__contains__" = some (some (.ref fmDI))) (imDI : PySem.W.isFn K (.ref fmDI) = true) (lmDI : K.lookup fmDI = some ⟨ocmDI, odmDI, .func (PySem.W.fnOf "__contains__" "Card.__contains__" (defArgs sCin) (defBody sCin) (defScope sCin) .none kVmDI dcmDI pmmDI anmDI cdmDI ctmDI), slmDI⟩) (cmDI : PySem.W.codeIn K cdmDI "Card.__contains__" = true) (kmDI : PySem.W.keepIn K (.ref fmDI) = true)
    (amD1 : PySem.W.findIn K (.ref D) "measure" = some (some (.ref fmD1))) (imD1 : PySem.W.isFn K (.ref fmD1) = true) (lmD1 : K.lookup fmD1 = some ⟨ocmD1, odmD1, .func (PySem.W.fnOf "measure" "Card.measure" (defArgs sCme1) (defBody sCme1) (defScope sCme1) .none kVmD1 dcmD1 pmmD1 anmD1 cdmD1 ctmD1), slmD1⟩) (cmD1 : PySem.W.codeIn K cdmD1 "Card.measure" = true) (kmD1 : PySem.W.keepIn K (.ref fmD1) = true)
    (amD2 : PySem.W.findIn K (.ref D) "turn" = some (some (.ref fmD2))) (imD2 : PySem.W.isFn K (.ref fmD2) = true) (lmD2 : K.lookup fmD2 = some ⟨ocmD2, odmD2, .func (PySem.W.fnOf "turn" "Card.turn" (defArgs sCtu) (defBody sCtu) (defScope sCtu) .none kVmD2 dcmD2 pmmD2 anmD2 cdmD2 ctmD2), slmD2⟩) (cmD2 : PySem.W.codeIn K cdmD2 "Card.turn" = true) (kmD2 : PySem.W.keepIn K (.ref fmD2) = true)
    (amD3 : PySem.W.findIn K (.ref D) "part" = some (some (.ref fmD3))) (imD3 : PySem.W.isFn K (.ref fmD3) = true) (lmD3 : K.lookup fmD3 = some ⟨ocmD3, odmD3, .func (PySem.W.fnOf "part" "Card.part" (defArgs sCpa) (defBody sCpa) (defScope sCpa) .none kVmD3 dcmD3 pmmD3 anmD3 cdmD3 ctmD3), slmD3⟩) (cmD3 : PySem.W.codeIn K cdmD3 "Card.part" = true) (kmD3 : PySem.W.keepIn K (.ref fmD3) = true)
    (amD4 : PySem.W.findIn K (.ref D) "rule" = some (some (.ref fmD4))) (imD4 : PySem.W.isFn K (.ref fmD4) = true) (lmD4 : K.lookup fmD4 = some ⟨ocmD4, odmD4, .func (PySem.W.fnOf "rule" "Card.rule" (defArgs sCru) (defBody sCru) (defScope sCru) .none (.ref kD) dcmD4 pmmD4 anmD4 cdmD4 ctmD4), slmD4⟩) (cmD4 : PySem.W.codeIn K cdmD4 "Card.rule" = true) (kmD4 : PySem.W.keepIn K (.ref fmD4) = true)
    (vW : PySem.W.nsIn K kD "when" = some (some (.ref dW))) (lW : K.lookup dW = some ⟨.type "tuple", odW, .seq #[] nW, slW⟩)
    (amD5 : PySem.W.findIn K (.ref D) "back" = some (some (.ref fmD5))) (imD5 : PySem.W.isFn K (.ref fmD5) = true) (lmD5 : K.lookup fmD5 = some ⟨ocmD5, odmD5, .func (PySem.W.fnOf "back" "Card.back" (defArgs sCba) (defBody sCba) (defScope sCba) .none kVmD5 dcmD5 pmmD5 anmD5 cdmD5 ctmD5), slmD5⟩) (cmD5 : PySem.W.codeIn K cdmD5 "Card.back" = true) (kmD5 : PySem.W.keepIn K (.ref fmD5) = true)
    (amD6 : PySem.W.findIn K (.ref D) "form" = some (some (.ref fmD6))) (imD6 : PySem.W.isFn K (.ref fmD6) = true) (lmD6 : K.lookup fmD6 = some ⟨ocmD6, odmD6, .func (PySem.W.fnOf "form" "Card.form" (defArgs sCfo) (defBody sCfo) (defScope sCfo) .none kVmD6 dcmD6 pmmD6 anmD6 cdmD6 ctmD6), slmD6⟩) (cmD6 : PySem.W.codeIn K cdmD6 "Card.form" = true) (kmD6 : PySem.W.keepIn K (.ref fmD6) = true)
    (aPA : PySem.W.findIn K (.ref D) "acts" = some (some (.ref pPA))) (gPA : PySem.W.specialIn K (.ref pPA) "__get__" = some (some (.builtin "property.__get__"))) (tPA : PySem.W.takesIn K (.ref pPA) = some true) (rPA : PySem.W.recIn K pPA "property" = some (.ref fPA :: rePA)) (lPA : K.lookup fPA = some ⟨ocPA, odPA, .func (PySem.W.fnOf "acts" "Card.acts" (defArgs sActs) (defBody sActs) (defScope sActs) .none kVPA dcPA pmPA anPA cdPA ctPA), slPA⟩) (cPA : PySem.W.codeIn K cdPA "Card.acts" = true) (kPA : PySem.W.keepIn K (.ref fPA) = true)
    (aPS : PySem.W.findIn K (.ref D) "steps" = some (some (.ref pPS))) (gPS : PySem.W.specialIn K (.ref pPS) "__get__" = some (some (.builtin "property.__get__"))) (tPS : PySem.W.takesIn K (.ref pPS) = some true) (rPS : PySem.W.recIn K pPS "property" = some (.ref fPS :: rePS)) (lPS : K.lookup fPS = some ⟨ocPS, odPS, .func (PySem.W.fnOf "steps" "Card.steps" (defArgs sSteps) (defBody sSteps) (defScope sSteps) .none kVPS dcPS pmPS anPS cdPS ctPS), slPS⟩) (cPS : PySem.W.codeIn K cdPS "Card.steps" = true) (kPS : PySem.W.keepIn K (.ref fPS) = true)
    (aPR : PySem.W.findIn K (.ref D) "rules" = some (some (.ref pPR))) (gPR : PySem.W.specialIn K (.ref pPR) "__get__" = some (some (.builtin "property.__get__"))) (tPR : PySem.W.takesIn K (.ref pPR) = some true) (rPR : PySem.W.recIn K pPR "property" = some (.ref fPR :: rePR)) (lPR : K.lookup fPR = some ⟨ocPR, odPR, .func (PySem.W.fnOf "rules" "Card.rules" (defArgs sRules) (defBody sRules) (defScope sRules) .none kVPR dcPR pmPR anPR cdPR ctPR), slPR⟩) (cPR : PySem.W.codeIn K cdPR "Card.rules" = true) (kPR : PySem.W.keepIn K (.ref fPR) = true)
    (aC : PySem.W.nsIn K mainGlobals "Form" = some (some (.ref C)))
    (pg : PySem.W.plainGet K C Str.empty = true)
    (hd : PySem.W.hasDictIn K C = true)
    (po : PySem.W.plainOver K C = true)
    (sa : PySem.W.findIn K (.ref C) "__setattr__" = some (some (.builtin "object.__setattr__")))
    (mk : PySem.W.makesIn K C = true)
    (kc : PySem.W.keepIn K (.ref C) = true)
    (nC : PySem.W.findIn K (.ref C) "constant" = some none)
    (nT : PySem.W.findIn K (.ref C) "terms" = some none)
    (sf : PySem.W.selfFirst K C = true)
    (ha : PySem.W.findIn K (.ref C) "__class__" = some (some (.builtin "object.__class__")))
    (hn : PySem.W.specialIn K (.builtin "object.__class__") "__get__" = some (some (.builtin "getset_descriptor.__get__")))
    (ht : PySem.W.takesIn K (.builtin "object.__class__") = some true)
    (hm : PySem.W.mroIn K C (.type "object") = some true)
    (ic : PySem.W.isClsIn K C = true)
    (ty : PySem.W.typeIn K (.ref C) = some (.type "type"))
    (nF : PySem.W.notFirst K C (.type "int") = true)
    (sJ : PySem.W.subIn K (.ref C) (.type "int") = some false)
    (sI : PySem.W.subIn K (.type "int") (.ref C) = some false)
    (aD : PySem.W.nsIn K mainGlobals "Card" = some (some (.ref D)))
    (pgD : PySem.W.plainGet K D Str.empty = true)
    (hdD : PySem.W.hasDictIn K D = true)
    (poD : PySem.W.plainOver K D = true)
    (saD : PySem.W.findIn K (.ref D) "__setattr__" = some (some (.builtin "object.__setattr__")))
    (mkD : PySem.W.makesIn K D = true)
    (kcD : PySem.W.keepIn K (.ref D) = true)
    (nAD : PySem.W.findIn K (.ref D) "_acts" = some none)
    (im : PySem.W.findIn K (.type "int") "__mul__" = some (some (.builtin "int.__mul__")))
    (ir : PySem.W.findIn K (.type "int") "__rmul__" = some (some (.builtin "int.__rmul__")))
    (vFR : PySem.W.nsIn K mainGlobals "FRAME" = some (some (.str (Str.ofString "frame") tFR)))
    (vFS : PySem.W.nsIn K mainGlobals "FIRST_SIGNS" = some (some (.str (Str.ofString "abcdefghijklmnopqrstuvwxyz") tFS)))
    (vLS : PySem.W.nsIn K mainGlobals "LATER_SIGNS" = some (some (.str (Str.ofString "abcdefghijklmnopqrstuvwxyz0123456789") tLS)))
    (vLN : PySem.W.nsIn K mainGlobals "LONGEST_NAME" = some (some (.int 12 tLN)))
    (vMR : PySem.W.nsIn K mainGlobals "MOST_RULES" = some (some (.int 80 tMR)))
    (vMS : PySem.W.nsIn K mainGlobals "MOST_STEPS" = some (some (.ref dMS)))
    (lMS : K.lookup dMS = some ⟨.type "dict", none, .dict esMS nMS, #[]⟩)
    (yMS : PySem.W.KeysLit w.params esMS.toList)
    (vM1 : PySem.W.nsIn K dMS "measure" = some (some (.int 6 tvM1)))
    (vM2 : PySem.W.nsIn K dMS "turn" = some (some (.int 3 tvM2)))
    (vM3 : PySem.W.nsIn K dMS "part" = some (some (.int 6 tvM3)))
    (zint : PySem.W.nsIn K mainGlobals "int" = some none)
    (zabs : PySem.W.nsIn K mainGlobals "abs" = some none)
    (zlen : PySem.W.nsIn K mainGlobals "len" = some none)
    (zlist : PySem.W.nsIn K mainGlobals "list" = some none)
    (zrange : PySem.W.nsIn K mainGlobals "range" = some none)
    (zsorted : PySem.W.nsIn K mainGlobals "sorted" = some none)
    (zstr : PySem.W.nsIn K mainGlobals "str" = some none)
    (zisinstance : PySem.W.nsIn K mainGlobals "isinstance" = some none)
    (zbool : PySem.W.nsIn K mainGlobals "bool" = some none)
    (zmax : PySem.W.nsIn K mainGlobals "max" = some none)
    (ztuple : PySem.W.nsIn K mainGlobals "tuple" = some none)
    (zzip : PySem.W.nsIn K mainGlobals "zip" = some none)
    (zall : PySem.W.nsIn K mainGlobals "all" = some none)
    (zrepr : PySem.W.nsIn K mainGlobals "repr" = some none)
    (zValueError : PySem.W.nsIn K mainGlobals "ValueError" = some none)
    (aC0 : PySem.W.nsIn K mainGlobals "BadName" = some (some (.ref C0)))
    (iC0 : PySem.W.isClsIn K C0 = true)
    (tC0 : PySem.W.typeIn K (.ref C0) = some (.type "type"))
    (aC1 : PySem.W.nsIn K mainGlobals "NameTaken" = some (some (.ref C1)))
    (iC1 : PySem.W.isClsIn K C1 = true)
    (tC1 : PySem.W.typeIn K (.ref C1) = some (.type "type"))
    (aC2 : PySem.W.nsIn K mainGlobals "UnknownName" = some (some (.ref C2)))
    (iC2 : PySem.W.isClsIn K C2 = true)
    (tC2 : PySem.W.typeIn K (.ref C2) = some (.type "type"))
    (aC3 : PySem.W.nsIn K mainGlobals "UnlikeEnds" = some (some (.ref C3)))
    (iC3 : PySem.W.isClsIn K C3 = true)
    (tC3 : PySem.W.typeIn K (.ref C3) = some (.type "type"))
    (aC4 : PySem.W.nsIn K mainGlobals "SamePart" = some (some (.ref C4)))
    (iC4 : PySem.W.isClsIn K C4 = true)
    (tC4 : PySem.W.typeIn K (.ref C4) = some (.type "type"))
    (aC5 : PySem.W.nsIn K mainGlobals "TurnTwice" = some (some (.ref C5)))
    (iC5 : PySem.W.isClsIn K C5 = true)
    (tC5 : PySem.W.typeIn K (.ref C5) = some (.type "type"))
    (aC6 : PySem.W.nsIn K mainGlobals "BadEnds" = some (some (.ref C6)))
    (iC6 : PySem.W.isClsIn K C6 = true)
    (tC6 : PySem.W.typeIn K (.ref C6) = some (.type "type"))
    (aC7 : PySem.W.nsIn K mainGlobals "BadCount" = some (some (.ref C7)))
    (iC7 : PySem.W.isClsIn K C7 = true)
    (tC7 : PySem.W.typeIn K (.ref C7) = some (.type "type"))
    (aC8 : PySem.W.nsIn K mainGlobals "BadOption" = some (some (.ref C8)))
    (iC8 : PySem.W.isClsIn K C8 = true)
    (tC8 : PySem.W.typeIn K (.ref C8) = some (.type "type"))
    (aC9 : PySem.W.nsIn K mainGlobals "CardFull" = some (some (.ref C9)))
    (iC9 : PySem.W.isClsIn K C9 = true)
    (tC9 : PySem.W.typeIn K (.ref C9) = some (.type "type"))
    (aC10 : PySem.W.nsIn K mainGlobals "CardEmpty" = some (some (.ref C10)))
    (iC10 : PySem.W.isClsIn K C10 = true)
    (tC10 : PySem.W.typeIn K (.ref C10) = some (.type "type"))
    (aCO : PySem.W.nsIn K mainGlobals "OfficeError" = some (some (.ref CO)))
    (iCO : PySem.W.isClsIn K CO = true)
    (tCO : PySem.W.typeIn K (.ref CO) = some (.type "type"))
    (eCO : PySem.W.subIn K (.ref CO) (.type "BaseException") = some true)
    (xL0 : K.lookup C0 = some (excClassObj nm0 q0 C0 N0 bs0 [.ref CO, .type "ValueError", .type "Exception", .type "BaseException", .type "object"] true sn0 sub0 ab0 col0 dd0 m00 m10 m20 m30 m50 "ValueError.__new__"))
    (xs0 : PySem.W.findIn K (.ref C0) "__setattr__" = some (some (.builtin "object.__setattr__")))
    (xi0 : PySem.W.findIn K (.ref C0) "__init__" = some (some (.ref fx0)))
    (xt0 : PySem.W.typeIn K (.ref fx0) = some (.type "function"))
    (xg0 : PySem.W.findIn K (.ref C0) "__getattribute__" = some (some (.builtin "BaseException.__getattribute__")))
    (xk0 : PySem.W.findIn K (.ref C0) "__getattr__" = some none)
    (xname0 : PySem.W.findIn K (.ref C0) "name" = some none)
    (xlow0 : PySem.W.findIn K (.ref C0) "low" = some none)
    (xhigh0 : PySem.W.findIn K (.ref C0) "high" = some none)
    (xoptions0 : PySem.W.findIn K (.ref C0) "options" = some none)
    (xoption0 : PySem.W.findIn K (.ref C0) "option" = some none)
    (xkind0 : PySem.W.findIn K (.ref C0) "kind" = some none)
    (xK0 : PySem.W.keepIn K (.ref C0) = true)
    (xe0 : PySem.W.subIn K (.ref C0) (.type "BaseException") = some true)
    (xd0 : PySem.W.hasDictIn K C0 = true)
    (xa0 : PySem.W.findIn K (.ref C0) "__class__" = some (some (.builtin "object.__class__")))
    (xm0 : PySem.W.mroIn K C0 (.type "object") = some true)
    (xv0 : PySem.W.subIn K (.ref C0) (.type "ValueError") = some true)
    (xo0 : PySem.W.subIn K (.ref C0) (.ref CO) = some true)
    (ne0_1 : (Value.ref C0 == Value.ref C1) = false)
    (sb0_1 : PySem.W.subIn K (.ref C0) (.ref C1) = some false)
    (ne0_2 : (Value.ref C0 == Value.ref C2) = false)
    (sb0_2 : PySem.W.subIn K (.ref C0) (.ref C2) = some false)
    (ne0_3 : (Value.ref C0 == Value.ref C3) = false)
    (sb0_3 : PySem.W.subIn K (.ref C0) (.ref C3) = some false)
    (ne0_4 : (Value.ref C0 == Value.ref C4) = false)
    (sb0_4 : PySem.W.subIn K (.ref C0) (.ref C4) = some false)
    (ne0_5 : (Value.ref C0 == Value.ref C5) = false)
    (sb0_5 : PySem.W.subIn K (.ref C0) (.ref C5) = some false)
    (ne0_6 : (Value.ref C0 == Value.ref C6) = false)
    (sb0_6 : PySem.W.subIn K (.ref C0) (.ref C6) = some false)
    (ne0_7 : (Value.ref C0 == Value.ref C7) = false)
    (sb0_7 : PySem.W.subIn K (.ref C0) (.ref C7) = some false)
    (ne0_8 : (Value.ref C0 == Value.ref C8) = false)
    (sb0_8 : PySem.W.subIn K (.ref C0) (.ref C8) = some false)
    (ne0_9 : (Value.ref C0 == Value.ref C9) = false)
    (sb0_9 : PySem.W.subIn K (.ref C0) (.ref C9) = some false)
    (ne0_10 : (Value.ref C0 == Value.ref C10) = false)
    (sb0_10 : PySem.W.subIn K (.ref C0) (.ref C10) = some false)
    (xL1 : K.lookup C1 = some (excClassObj nm1 q1 C1 N1 bs1 [.ref CO, .type "ValueError", .type "Exception", .type "BaseException", .type "object"] true sn1 sub1 ab1 col1 dd1 m01 m11 m21 m31 m51 "ValueError.__new__"))
    (xs1 : PySem.W.findIn K (.ref C1) "__setattr__" = some (some (.builtin "object.__setattr__")))
    (xi1 : PySem.W.findIn K (.ref C1) "__init__" = some (some (.ref fx1)))
    (xt1 : PySem.W.typeIn K (.ref fx1) = some (.type "function"))
    (xg1 : PySem.W.findIn K (.ref C1) "__getattribute__" = some (some (.builtin "BaseException.__getattribute__")))
    (xk1 : PySem.W.findIn K (.ref C1) "__getattr__" = some none)
    (xname1 : PySem.W.findIn K (.ref C1) "name" = some none)
    (xlow1 : PySem.W.findIn K (.ref C1) "low" = some none)
    (xhigh1 : PySem.W.findIn K (.ref C1) "high" = some none)
    (xoptions1 : PySem.W.findIn K (.ref C1) "options" = some none)
    (xoption1 : PySem.W.findIn K (.ref C1) "option" = some none)
    (xkind1 : PySem.W.findIn K (.ref C1) "kind" = some none)
    (xK1 : PySem.W.keepIn K (.ref C1) = true)
    (xe1 : PySem.W.subIn K (.ref C1) (.type "BaseException") = some true)
    (xd1 : PySem.W.hasDictIn K C1 = true)
    (xa1 : PySem.W.findIn K (.ref C1) "__class__" = some (some (.builtin "object.__class__")))
    (xm1 : PySem.W.mroIn K C1 (.type "object") = some true)
    (xv1 : PySem.W.subIn K (.ref C1) (.type "ValueError") = some true)
    (xo1 : PySem.W.subIn K (.ref C1) (.ref CO) = some true)
    (ne1_0 : (Value.ref C1 == Value.ref C0) = false)
    (sb1_0 : PySem.W.subIn K (.ref C1) (.ref C0) = some false)
    (ne1_2 : (Value.ref C1 == Value.ref C2) = false)
    (sb1_2 : PySem.W.subIn K (.ref C1) (.ref C2) = some false)
    (ne1_3 : (Value.ref C1 == Value.ref C3) = false)
    (sb1_3 : PySem.W.subIn K (.ref C1) (.ref C3) = some false)
    (ne1_4 : (Value.ref C1 == Value.ref C4) = false)
    (sb1_4 : PySem.W.subIn K (.ref C1) (.ref C4) = some false)
    (ne1_5 : (Value.ref C1 == Value.ref C5) = false)
    (sb1_5 : PySem.W.subIn K (.ref C1) (.ref C5) = some false)
    (ne1_6 : (Value.ref C1 == Value.ref C6) = false)
    (sb1_6 : PySem.W.subIn K (.ref C1) (.ref C6) = some false)
    (ne1_7 : (Value.ref C1 == Value.ref C7) = false)
    (sb1_7 : PySem.W.subIn K (.ref C1) (.ref C7) = some false)
    (ne1_8 : (Value.ref C1 == Value.ref C8) = false)
    (sb1_8 : PySem.W.subIn K (.ref C1) (.ref C8) = some false)
    (ne1_9 : (Value.ref C1 == Value.ref C9) = false)
    (sb1_9 : PySem.W.subIn K (.ref C1) (.ref C9) = some false)
    (ne1_10 : (Value.ref C1 == Value.ref C10) = false)
    (sb1_10 : PySem.W.subIn K (.ref C1) (.ref C10) = some false)
    (xL2 : K.lookup C2 = some (excClassObj nm2 q2 C2 N2 bs2 [.ref CO, .type "ValueError", .type "Exception", .type "BaseException", .type "object"] true sn2 sub2 ab2 col2 dd2 m02 m12 m22 m32 m52 "ValueError.__new__"))
    (xs2 : PySem.W.findIn K (.ref C2) "__setattr__" = some (some (.builtin "object.__setattr__")))
    (xi2 : PySem.W.findIn K (.ref C2) "__init__" = some (some (.ref fx2)))
    (xt2 : PySem.W.typeIn K (.ref fx2) = some (.type "function"))
    (xg2 : PySem.W.findIn K (.ref C2) "__getattribute__" = some (some (.builtin "BaseException.__getattribute__")))
    (xk2 : PySem.W.findIn K (.ref C2) "__getattr__" = some none)
    (xname2 : PySem.W.findIn K (.ref C2) "name" = some none)
    (xlow2 : PySem.W.findIn K (.ref C2) "low" = some none)
    (xhigh2 : PySem.W.findIn K (.ref C2) "high" = some none)
    (xoptions2 : PySem.W.findIn K (.ref C2) "options" = some none)
    (xoption2 : PySem.W.findIn K (.ref C2) "option" = some none)
    (xkind2 : PySem.W.findIn K (.ref C2) "kind" = some none)
    (xK2 : PySem.W.keepIn K (.ref C2) = true)
    (xe2 : PySem.W.subIn K (.ref C2) (.type "BaseException") = some true)
    (xd2 : PySem.W.hasDictIn K C2 = true)
    (xa2 : PySem.W.findIn K (.ref C2) "__class__" = some (some (.builtin "object.__class__")))
    (xm2 : PySem.W.mroIn K C2 (.type "object") = some true)
    (xv2 : PySem.W.subIn K (.ref C2) (.type "ValueError") = some true)
    (xo2 : PySem.W.subIn K (.ref C2) (.ref CO) = some true)
    (ne2_0 : (Value.ref C2 == Value.ref C0) = false)
    (sb2_0 : PySem.W.subIn K (.ref C2) (.ref C0) = some false)
    (ne2_1 : (Value.ref C2 == Value.ref C1) = false)
    (sb2_1 : PySem.W.subIn K (.ref C2) (.ref C1) = some false)
    (ne2_3 : (Value.ref C2 == Value.ref C3) = false)
    (sb2_3 : PySem.W.subIn K (.ref C2) (.ref C3) = some false)
    (ne2_4 : (Value.ref C2 == Value.ref C4) = false)
    (sb2_4 : PySem.W.subIn K (.ref C2) (.ref C4) = some false)
    (ne2_5 : (Value.ref C2 == Value.ref C5) = false)
    (sb2_5 : PySem.W.subIn K (.ref C2) (.ref C5) = some false)
    (ne2_6 : (Value.ref C2 == Value.ref C6) = false)
    (sb2_6 : PySem.W.subIn K (.ref C2) (.ref C6) = some false)
    (ne2_7 : (Value.ref C2 == Value.ref C7) = false)
    (sb2_7 : PySem.W.subIn K (.ref C2) (.ref C7) = some false)
    (ne2_8 : (Value.ref C2 == Value.ref C8) = false)
    (sb2_8 : PySem.W.subIn K (.ref C2) (.ref C8) = some false)
    (ne2_9 : (Value.ref C2 == Value.ref C9) = false)
    (sb2_9 : PySem.W.subIn K (.ref C2) (.ref C9) = some false)
    (ne2_10 : (Value.ref C2 == Value.ref C10) = false)
    (sb2_10 : PySem.W.subIn K (.ref C2) (.ref C10) = some false)
    (xL3 : K.lookup C3 = some (excClassObj nm3 q3 C3 N3 bs3 [.ref CO, .type "ValueError", .type "Exception", .type "BaseException", .type "object"] true sn3 sub3 ab3 col3 dd3 m03 m13 m23 m33 m53 "ValueError.__new__"))
    (xs3 : PySem.W.findIn K (.ref C3) "__setattr__" = some (some (.builtin "object.__setattr__")))
    (xi3 : PySem.W.findIn K (.ref C3) "__init__" = some (some (.ref fx3)))
    (xt3 : PySem.W.typeIn K (.ref fx3) = some (.type "function"))
    (xg3 : PySem.W.findIn K (.ref C3) "__getattribute__" = some (some (.builtin "BaseException.__getattribute__")))
    (xk3 : PySem.W.findIn K (.ref C3) "__getattr__" = some none)
    (xname3 : PySem.W.findIn K (.ref C3) "name" = some none)
    (xlow3 : PySem.W.findIn K (.ref C3) "low" = some none)
    (xhigh3 : PySem.W.findIn K (.ref C3) "high" = some none)
    (xoptions3 : PySem.W.findIn K (.ref C3) "options" = some none)
    (xoption3 : PySem.W.findIn K (.ref C3) "option" = some none)
    (xkind3 : PySem.W.findIn K (.ref C3) "kind" = some none)
    (xK3 : PySem.W.keepIn K (.ref C3) = true)
    (xe3 : PySem.W.subIn K (.ref C3) (.type "BaseException") = some true)
    (xd3 : PySem.W.hasDictIn K C3 = true)
    (xa3 : PySem.W.findIn K (.ref C3) "__class__" = some (some (.builtin "object.__class__")))
    (xm3 : PySem.W.mroIn K C3 (.type "object") = some true)
    (xv3 : PySem.W.subIn K (.ref C3) (.type "ValueError") = some true)
    (xo3 : PySem.W.subIn K (.ref C3) (.ref CO) = some true)
    (ne3_0 : (Value.ref C3 == Value.ref C0) = false)
    (sb3_0 : PySem.W.subIn K (.ref C3) (.ref C0) = some false)
    (ne3_1 : (Value.ref C3 == Value.ref C1) = false)
    (sb3_1 : PySem.W.subIn K (.ref C3) (.ref C1) = some false)
    (ne3_2 : (Value.ref C3 == Value.ref C2) = false)
    (sb3_2 : PySem.W.subIn K (.ref C3) (.ref C2) = some false)
    (ne3_4 : (Value.ref C3 == Value.ref C4) = false)
    (sb3_4 : PySem.W.subIn K (.ref C3) (.ref C4) = some false)
    (ne3_5 : (Value.ref C3 == Value.ref C5) = false)
    (sb3_5 : PySem.W.subIn K (.ref C3) (.ref C5) = some false)
    (ne3_6 : (Value.ref C3 == Value.ref C6) = false)
    (sb3_6 : PySem.W.subIn K (.ref C3) (.ref C6) = some false)
    (ne3_7 : (Value.ref C3 == Value.ref C7) = false)
    (sb3_7 : PySem.W.subIn K (.ref C3) (.ref C7) = some false)
    (ne3_8 : (Value.ref C3 == Value.ref C8) = false)
    (sb3_8 : PySem.W.subIn K (.ref C3) (.ref C8) = some false)
    (ne3_9 : (Value.ref C3 == Value.ref C9) = false)
    (sb3_9 : PySem.W.subIn K (.ref C3) (.ref C9) = some false)
    (ne3_10 : (Value.ref C3 == Value.ref C10) = false)
    (sb3_10 : PySem.W.subIn K (.ref C3) (.ref C10) = some false)
    (xL4 : K.lookup C4 = some (excClassObj nm4 q4 C4 N4 bs4 [.ref CO, .type "ValueError", .type "Exception", .type "BaseException", .type "object"] true sn4 sub4 ab4 col4 dd4 m04 m14 m24 m34 m54 "ValueError.__new__"))
    (xs4 : PySem.W.findIn K (.ref C4) "__setattr__" = some (some (.builtin "object.__setattr__")))
    (xi4 : PySem.W.findIn K (.ref C4) "__init__" = some (some (.ref fx4)))
    (xt4 : PySem.W.typeIn K (.ref fx4) = some (.type "function"))
    (xg4 : PySem.W.findIn K (.ref C4) "__getattribute__" = some (some (.builtin "BaseException.__getattribute__")))
    (xk4 : PySem.W.findIn K (.ref C4) "__getattr__" = some none)
    (xname4 : PySem.W.findIn K (.ref C4) "name" = some none)
    (xlow4 : PySem.W.findIn K (.ref C4) "low" = some none)
    (xhigh4 : PySem.W.findIn K (.ref C4) "high" = some none)
    (xoptions4 : PySem.W.findIn K (.ref C4) "options" = some none)
    (xoption4 : PySem.W.findIn K (.ref C4) "option" = some none)
    (xkind4 : PySem.W.findIn K (.ref C4) "kind" = some none)
    (xK4 : PySem.W.keepIn K (.ref C4) = true)
    (xe4 : PySem.W.subIn K (.ref C4) (.type "BaseException") = some true)
    (xd4 : PySem.W.hasDictIn K C4 = true)
    (xa4 : PySem.W.findIn K (.ref C4) "__class__" = some (some (.builtin "object.__class__")))
    (xm4 : PySem.W.mroIn K C4 (.type "object") = some true)
    (xv4 : PySem.W.subIn K (.ref C4) (.type "ValueError") = some true)
    (xo4 : PySem.W.subIn K (.ref C4) (.ref CO) = some true)
    (ne4_0 : (Value.ref C4 == Value.ref C0) = false)
    (sb4_0 : PySem.W.subIn K (.ref C4) (.ref C0) = some false)
    (ne4_1 : (Value.ref C4 == Value.ref C1) = false)
    (sb4_1 : PySem.W.subIn K (.ref C4) (.ref C1) = some false)
    (ne4_2 : (Value.ref C4 == Value.ref C2) = false)
    (sb4_2 : PySem.W.subIn K (.ref C4) (.ref C2) = some false)
    (ne4_3 : (Value.ref C4 == Value.ref C3) = false)
    (sb4_3 : PySem.W.subIn K (.ref C4) (.ref C3) = some false)
    (ne4_5 : (Value.ref C4 == Value.ref C5) = false)
    (sb4_5 : PySem.W.subIn K (.ref C4) (.ref C5) = some false)
    (ne4_6 : (Value.ref C4 == Value.ref C6) = false)
    (sb4_6 : PySem.W.subIn K (.ref C4) (.ref C6) = some false)
    (ne4_7 : (Value.ref C4 == Value.ref C7) = false)
    (sb4_7 : PySem.W.subIn K (.ref C4) (.ref C7) = some false)
    (ne4_8 : (Value.ref C4 == Value.ref C8) = false)
    (sb4_8 : PySem.W.subIn K (.ref C4) (.ref C8) = some false)
    (ne4_9 : (Value.ref C4 == Value.ref C9) = false)
    (sb4_9 : PySem.W.subIn K (.ref C4) (.ref C9) = some false)
    (ne4_10 : (Value.ref C4 == Value.ref C10) = false)
    (sb4_10 : PySem.W.subIn K (.ref C4) (.ref C10) = some false)
    (xL5 : K.lookup C5 = some (excClassObj nm5 q5 C5 N5 bs5 [.ref CO, .type "ValueError", .type "Exception", .type "BaseException", .type "object"] true sn5 sub5 ab5 col5 dd5 m05 m15 m25 m35 m55 "ValueError.__new__"))
    (xs5 : PySem.W.findIn K (.ref C5) "__setattr__" = some (some (.builtin "object.__setattr__")))
    (xi5 : PySem.W.findIn K (.ref C5) "__init__" = some (some (.ref fx5)))
    (xt5 : PySem.W.typeIn K (.ref fx5) = some (.type "function"))
    (xg5 : PySem.W.findIn K (.ref C5) "__getattribute__" = some (some (.builtin "BaseException.__getattribute__")))
    (xk5 : PySem.W.findIn K (.ref C5) "__getattr__" = some none)
    (xname5 : PySem.W.findIn K (.ref C5) "name" = some none)
    (xlow5 : PySem.W.findIn K (.ref C5) "low" = some none)
    (xhigh5 : PySem.W.findIn K (.ref C5) "high" = some none)
    (xoptions5 : PySem.W.findIn K (.ref C5) "options" = some none)
    (xoption5 : PySem.W.findIn K (.ref C5) "option" = some none)
    (xkind5 : PySem.W.findIn K (.ref C5) "kind" = some none)
    (xK5 : PySem.W.keepIn K (.ref C5) = true)
    (xe5 : PySem.W.subIn K (.ref C5) (.type "BaseException") = some true)
    (xd5 : PySem.W.hasDictIn K C5 = true)
    (xa5 : PySem.W.findIn K (.ref C5) "__class__" = some (some (.builtin "object.__class__")))
    (xm5 : PySem.W.mroIn K C5 (.type "object") = some true)
    (xv5 : PySem.W.subIn K (.ref C5) (.type "ValueError") = some true)
    (xo5 : PySem.W.subIn K (.ref C5) (.ref CO) = some true)
    (ne5_0 : (Value.ref C5 == Value.ref C0) = false)
    (sb5_0 : PySem.W.subIn K (.ref C5) (.ref C0) = some false)
    (ne5_1 : (Value.ref C5 == Value.ref C1) = false)
    (sb5_1 : PySem.W.subIn K (.ref C5) (.ref C1) = some false)
    (ne5_2 : (Value.ref C5 == Value.ref C2) = false)
    (sb5_2 : PySem.W.subIn K (.ref C5) (.ref C2) = some false)
    (ne5_3 : (Value.ref C5 == Value.ref C3) = false)
    (sb5_3 : PySem.W.subIn K (.ref C5) (.ref C3) = some false)
    (ne5_4 : (Value.ref C5 == Value.ref C4) = false)
    (sb5_4 : PySem.W.subIn K (.ref C5) (.ref C4) = some false)
    (ne5_6 : (Value.ref C5 == Value.ref C6) = false)
    (sb5_6 : PySem.W.subIn K (.ref C5) (.ref C6) = some false)
    (ne5_7 : (Value.ref C5 == Value.ref C7) = false)
    (sb5_7 : PySem.W.subIn K (.ref C5) (.ref C7) = some false)
    (ne5_8 : (Value.ref C5 == Value.ref C8) = false)
    (sb5_8 : PySem.W.subIn K (.ref C5) (.ref C8) = some false)
    (ne5_9 : (Value.ref C5 == Value.ref C9) = false)
    (sb5_9 : PySem.W.subIn K (.ref C5) (.ref C9) = some false)
    (ne5_10 : (Value.ref C5 == Value.ref C10) = false)
    (sb5_10 : PySem.W.subIn K (.ref C5) (.ref C10) = some false)
    (xL6 : K.lookup C6 = some (excClassObj nm6 q6 C6 N6 bs6 [.ref CO, .type "ValueError", .type "Exception", .type "BaseException", .type "object"] true sn6 sub6 ab6 col6 dd6 m06 m16 m26 m36 m56 "ValueError.__new__"))
    (xs6 : PySem.W.findIn K (.ref C6) "__setattr__" = some (some (.builtin "object.__setattr__")))
    (xi6 : PySem.W.findIn K (.ref C6) "__init__" = some (some (.ref fx6)))
    (xt6 : PySem.W.typeIn K (.ref fx6) = some (.type "function"))
    (xg6 : PySem.W.findIn K (.ref C6) "__getattribute__" = some (some (.builtin "BaseException.__getattribute__")))
    (xk6 : PySem.W.findIn K (.ref C6) "__getattr__" = some none)
    (xname6 : PySem.W.findIn K (.ref C6) "name" = some none)
    (xlow6 : PySem.W.findIn K (.ref C6) "low" = some none)
    (xhigh6 : PySem.W.findIn K (.ref C6) "high" = some none)
    (xoptions6 : PySem.W.findIn K (.ref C6) "options" = some none)
    (xoption6 : PySem.W.findIn K (.ref C6) "option" = some none)
    (xkind6 : PySem.W.findIn K (.ref C6) "kind" = some none)
    (xK6 : PySem.W.keepIn K (.ref C6) = true)
    (xe6 : PySem.W.subIn K (.ref C6) (.type "BaseException") = some true)
    (xd6 : PySem.W.hasDictIn K C6 = true)
    (xa6 : PySem.W.findIn K (.ref C6) "__class__" = some (some (.builtin "object.__class__")))
    (xm6 : PySem.W.mroIn K C6 (.type "object") = some true)
    (xv6 : PySem.W.subIn K (.ref C6) (.type "ValueError") = some true)
    (xo6 : PySem.W.subIn K (.ref C6) (.ref CO) = some true)
    (ne6_0 : (Value.ref C6 == Value.ref C0) = false)
    (sb6_0 : PySem.W.subIn K (.ref C6) (.ref C0) = some false)
    (ne6_1 : (Value.ref C6 == Value.ref C1) = false)
    (sb6_1 : PySem.W.subIn K (.ref C6) (.ref C1) = some false)
    (ne6_2 : (Value.ref C6 == Value.ref C2) = false)
    (sb6_2 : PySem.W.subIn K (.ref C6) (.ref C2) = some false)
    (ne6_3 : (Value.ref C6 == Value.ref C3) = false)
    (sb6_3 : PySem.W.subIn K (.ref C6) (.ref C3) = some false)
    (ne6_4 : (Value.ref C6 == Value.ref C4) = false)
    (sb6_4 : PySem.W.subIn K (.ref C6) (.ref C4) = some false)
    (ne6_5 : (Value.ref C6 == Value.ref C5) = false)
    (sb6_5 : PySem.W.subIn K (.ref C6) (.ref C5) = some false)
    (ne6_7 : (Value.ref C6 == Value.ref C7) = false)
    (sb6_7 : PySem.W.subIn K (.ref C6) (.ref C7) = some false)
    (ne6_8 : (Value.ref C6 == Value.ref C8) = false)
    (sb6_8 : PySem.W.subIn K (.ref C6) (.ref C8) = some false)
    (ne6_9 : (Value.ref C6 == Value.ref C9) = false)
    (sb6_9 : PySem.W.subIn K (.ref C6) (.ref C9) = some false)
    (ne6_10 : (Value.ref C6 == Value.ref C10) = false)
    (sb6_10 : PySem.W.subIn K (.ref C6) (.ref C10) = some false)
    (xL7 : K.lookup C7 = some (excClassObj nm7 q7 C7 N7 bs7 [.ref CO, .type "ValueError", .type "Exception", .type "BaseException", .type "object"] true sn7 sub7 ab7 col7 dd7 m07 m17 m27 m37 m57 "ValueError.__new__"))
    (xs7 : PySem.W.findIn K (.ref C7) "__setattr__" = some (some (.builtin "object.__setattr__")))
    (xi7 : PySem.W.findIn K (.ref C7) "__init__" = some (some (.ref fx7)))
    (xt7 : PySem.W.typeIn K (.ref fx7) = some (.type "function"))
    (xg7 : PySem.W.findIn K (.ref C7) "__getattribute__" = some (some (.builtin "BaseException.__getattribute__")))
    (xk7 : PySem.W.findIn K (.ref C7) "__getattr__" = some none)
    (xname7 : PySem.W.findIn K (.ref C7) "name" = some none)
    (xlow7 : PySem.W.findIn K (.ref C7) "low" = some none)
    (xhigh7 : PySem.W.findIn K (.ref C7) "high" = some none)
    (xoptions7 : PySem.W.findIn K (.ref C7) "options" = some none)
    (xoption7 : PySem.W.findIn K (.ref C7) "option" = some none)
    (xkind7 : PySem.W.findIn K (.ref C7) "kind" = some none)
    (xK7 : PySem.W.keepIn K (.ref C7) = true)
    (xe7 : PySem.W.subIn K (.ref C7) (.type "BaseException") = some true)
    (xd7 : PySem.W.hasDictIn K C7 = true)
    (xa7 : PySem.W.findIn K (.ref C7) "__class__" = some (some (.builtin "object.__class__")))
    (xm7 : PySem.W.mroIn K C7 (.type "object") = some true)
    (xv7 : PySem.W.subIn K (.ref C7) (.type "ValueError") = some true)
    (xo7 : PySem.W.subIn K (.ref C7) (.ref CO) = some true)
    (ne7_0 : (Value.ref C7 == Value.ref C0) = false)
    (sb7_0 : PySem.W.subIn K (.ref C7) (.ref C0) = some false)
    (ne7_1 : (Value.ref C7 == Value.ref C1) = false)
    (sb7_1 : PySem.W.subIn K (.ref C7) (.ref C1) = some false)
    (ne7_2 : (Value.ref C7 == Value.ref C2) = false)
    (sb7_2 : PySem.W.subIn K (.ref C7) (.ref C2) = some false)
    (ne7_3 : (Value.ref C7 == Value.ref C3) = false)
    (sb7_3 : PySem.W.subIn K (.ref C7) (.ref C3) = some false)
    (ne7_4 : (Value.ref C7 == Value.ref C4) = false)
    (sb7_4 : PySem.W.subIn K (.ref C7) (.ref C4) = some false)
    (ne7_5 : (Value.ref C7 == Value.ref C5) = false)
    (sb7_5 : PySem.W.subIn K (.ref C7) (.ref C5) = some false)
    (ne7_6 : (Value.ref C7 == Value.ref C6) = false)
    (sb7_6 : PySem.W.subIn K (.ref C7) (.ref C6) = some false)
    (ne7_8 : (Value.ref C7 == Value.ref C8) = false)
    (sb7_8 : PySem.W.subIn K (.ref C7) (.ref C8) = some false)
    (ne7_9 : (Value.ref C7 == Value.ref C9) = false)
    (sb7_9 : PySem.W.subIn K (.ref C7) (.ref C9) = some false)
    (ne7_10 : (Value.ref C7 == Value.ref C10) = false)
    (sb7_10 : PySem.W.subIn K (.ref C7) (.ref C10) = some false)
    (xL8 : K.lookup C8 = some (excClassObj nm8 q8 C8 N8 bs8 [.ref CO, .type "ValueError", .type "Exception", .type "BaseException", .type "object"] true sn8 sub8 ab8 col8 dd8 m08 m18 m28 m38 m58 "ValueError.__new__"))
    (xs8 : PySem.W.findIn K (.ref C8) "__setattr__" = some (some (.builtin "object.__setattr__")))
    (xi8 : PySem.W.findIn K (.ref C8) "__init__" = some (some (.ref fx8)))
    (xt8 : PySem.W.typeIn K (.ref fx8) = some (.type "function"))
    (xg8 : PySem.W.findIn K (.ref C8) "__getattribute__" = some (some (.builtin "BaseException.__getattribute__")))
    (xk8 : PySem.W.findIn K (.ref C8) "__getattr__" = some none)
    (xname8 : PySem.W.findIn K (.ref C8) "name" = some none)
    (xlow8 : PySem.W.findIn K (.ref C8) "low" = some none)
    (xhigh8 : PySem.W.findIn K (.ref C8) "high" = some none)
    (xoptions8 : PySem.W.findIn K (.ref C8) "options" = some none)
    (xoption8 : PySem.W.findIn K (.ref C8) "option" = some none)
    (xkind8 : PySem.W.findIn K (.ref C8) "kind" = some none)
    (xK8 : PySem.W.keepIn K (.ref C8) = true)
    (xe8 : PySem.W.subIn K (.ref C8) (.type "BaseException") = some true)
    (xd8 : PySem.W.hasDictIn K C8 = true)
    (xa8 : PySem.W.findIn K (.ref C8) "__class__" = some (some (.builtin "object.__class__")))
    (xm8 : PySem.W.mroIn K C8 (.type "object") = some true)
    (xv8 : PySem.W.subIn K (.ref C8) (.type "ValueError") = some true)
    (xo8 : PySem.W.subIn K (.ref C8) (.ref CO) = some true)
    (ne8_0 : (Value.ref C8 == Value.ref C0) = false)
    (sb8_0 : PySem.W.subIn K (.ref C8) (.ref C0) = some false)
    (ne8_1 : (Value.ref C8 == Value.ref C1) = false)
    (sb8_1 : PySem.W.subIn K (.ref C8) (.ref C1) = some false)
    (ne8_2 : (Value.ref C8 == Value.ref C2) = false)
    (sb8_2 : PySem.W.subIn K (.ref C8) (.ref C2) = some false)
    (ne8_3 : (Value.ref C8 == Value.ref C3) = false)
    (sb8_3 : PySem.W.subIn K (.ref C8) (.ref C3) = some false)
    (ne8_4 : (Value.ref C8 == Value.ref C4) = false)
    (sb8_4 : PySem.W.subIn K (.ref C8) (.ref C4) = some false)
    (ne8_5 : (Value.ref C8 == Value.ref C5) = false)
    (sb8_5 : PySem.W.subIn K (.ref C8) (.ref C5) = some false)
    (ne8_6 : (Value.ref C8 == Value.ref C6) = false)
    (sb8_6 : PySem.W.subIn K (.ref C8) (.ref C6) = some false)
    (ne8_7 : (Value.ref C8 == Value.ref C7) = false)
    (sb8_7 : PySem.W.subIn K (.ref C8) (.ref C7) = some false)
    (ne8_9 : (Value.ref C8 == Value.ref C9) = false)
    (sb8_9 : PySem.W.subIn K (.ref C8) (.ref C9) = some false)
    (ne8_10 : (Value.ref C8 == Value.ref C10) = false)
    (sb8_10 : PySem.W.subIn K (.ref C8) (.ref C10) = some false)
    (xL9 : K.lookup C9 = some (excClassObj nm9 q9 C9 N9 bs9 [.ref CO, .type "ValueError", .type "Exception", .type "BaseException", .type "object"] true sn9 sub9 ab9 col9 dd9 m09 m19 m29 m39 m59 "ValueError.__new__"))
    (xs9 : PySem.W.findIn K (.ref C9) "__setattr__" = some (some (.builtin "object.__setattr__")))
    (xi9 : PySem.W.findIn K (.ref C9) "__init__" = some (some (.ref fx9)))
    (xt9 : PySem.W.typeIn K (.ref fx9) = some (.type "function"))
    (xg9 : PySem.W.findIn K (.ref C9) "__getattribute__" = some (some (.builtin "BaseException.__getattribute__")))
    (xk9 : PySem.W.findIn K (.ref C9) "__getattr__" = some none)
    (xname9 : PySem.W.findIn K (.ref C9) "name" = some none)
    (xlow9 : PySem.W.findIn K (.ref C9) "low" = some none)
    (xhigh9 : PySem.W.findIn K (.ref C9) "high" = some none)
    (xoptions9 : PySem.W.findIn K (.ref C9) "options" = some none)
    (xoption9 : PySem.W.findIn K (.ref C9) "option" = some none)
    (xkind9 : PySem.W.findIn K (.ref C9) "kind" = some none)
    (xK9 : PySem.W.keepIn K (.ref C9) = true)
    (xe9 : PySem.W.subIn K (.ref C9) (.type "BaseException") = some true)
    (xd9 : PySem.W.hasDictIn K C9 = true)
    (xa9 : PySem.W.findIn K (.ref C9) "__class__" = some (some (.builtin "object.__class__")))
    (xm9 : PySem.W.mroIn K C9 (.type "object") = some true)
    (xv9 : PySem.W.subIn K (.ref C9) (.type "ValueError") = some true)
    (xo9 : PySem.W.subIn K (.ref C9) (.ref CO) = some true)
    (ne9_0 : (Value.ref C9 == Value.ref C0) = false)
    (sb9_0 : PySem.W.subIn K (.ref C9) (.ref C0) = some false)
    (ne9_1 : (Value.ref C9 == Value.ref C1) = false)
    (sb9_1 : PySem.W.subIn K (.ref C9) (.ref C1) = some false)
    (ne9_2 : (Value.ref C9 == Value.ref C2) = false)
    (sb9_2 : PySem.W.subIn K (.ref C9) (.ref C2) = some false)
    (ne9_3 : (Value.ref C9 == Value.ref C3) = false)
    (sb9_3 : PySem.W.subIn K (.ref C9) (.ref C3) = some false)
    (ne9_4 : (Value.ref C9 == Value.ref C4) = false)
    (sb9_4 : PySem.W.subIn K (.ref C9) (.ref C4) = some false)
    (ne9_5 : (Value.ref C9 == Value.ref C5) = false)
    (sb9_5 : PySem.W.subIn K (.ref C9) (.ref C5) = some false)
    (ne9_6 : (Value.ref C9 == Value.ref C6) = false)
    (sb9_6 : PySem.W.subIn K (.ref C9) (.ref C6) = some false)
    (ne9_7 : (Value.ref C9 == Value.ref C7) = false)
    (sb9_7 : PySem.W.subIn K (.ref C9) (.ref C7) = some false)
    (ne9_8 : (Value.ref C9 == Value.ref C8) = false)
    (sb9_8 : PySem.W.subIn K (.ref C9) (.ref C8) = some false)
    (ne9_10 : (Value.ref C9 == Value.ref C10) = false)
    (sb9_10 : PySem.W.subIn K (.ref C9) (.ref C10) = some false)
    (xN10 : PySem.W.excIn K C10 [.type "ValueError", .type "Exception", .type "BaseException", .type "object"] "ValueError.__new__" = true)
    (xg10 : PySem.W.findIn K (.ref C10) "__getattribute__" = some (some (.builtin "BaseException.__getattribute__")))
    (xk10 : PySem.W.findIn K (.ref C10) "__getattr__" = some none)
    (xname10 : PySem.W.findIn K (.ref C10) "name" = some none)
    (xlow10 : PySem.W.findIn K (.ref C10) "low" = some none)
    (xhigh10 : PySem.W.findIn K (.ref C10) "high" = some none)
    (xoptions10 : PySem.W.findIn K (.ref C10) "options" = some none)
    (xoption10 : PySem.W.findIn K (.ref C10) "option" = some none)
    (xkind10 : PySem.W.findIn K (.ref C10) "kind" = some none)
    (xK10 : PySem.W.keepIn K (.ref C10) = true)
    (xe10 : PySem.W.subIn K (.ref C10) (.type "BaseException") = some true)
    (xd10 : PySem.W.hasDictIn K C10 = true)
    (xa10 : PySem.W.findIn K (.ref C10) "__class__" = some (some (.builtin "object.__class__")))
    (xm10 : PySem.W.mroIn K C10 (.type "object") = some true)
    (xv10 : PySem.W.subIn K (.ref C10) (.type "ValueError") = some true)
    (xo10 : PySem.W.subIn K (.ref C10) (.ref CO) = some true)
    (ne10_0 : (Value.ref C10 == Value.ref C0) = false)
    (sb10_0 : PySem.W.subIn K (.ref C10) (.ref C0) = some false)
    (ne10_1 : (Value.ref C10 == Value.ref C1) = false)
    (sb10_1 : PySem.W.subIn K (.ref C10) (.ref C1) = some false)
    (ne10_2 : (Value.ref C10 == Value.ref C2) = false)
    (sb10_2 : PySem.W.subIn K (.ref C10) (.ref C2) = some false)
    (ne10_3 : (Value.ref C10 == Value.ref C3) = false)
    (sb10_3 : PySem.W.subIn K (.ref C10) (.ref C3) = some false)
    (ne10_4 : (Value.ref C10 == Value.ref C4) = false)
    (sb10_4 : PySem.W.subIn K (.ref C10) (.ref C4) = some false)
    (ne10_5 : (Value.ref C10 == Value.ref C5) = false)
    (sb10_5 : PySem.W.subIn K (.ref C10) (.ref C5) = some false)
    (ne10_6 : (Value.ref C10 == Value.ref C6) = false)
    (sb10_6 : PySem.W.subIn K (.ref C10) (.ref C6) = some false)
    (ne10_7 : (Value.ref C10 == Value.ref C7) = false)
    (sb10_7 : PySem.W.subIn K (.ref C10) (.ref C7) = some false)
    (ne10_8 : (Value.ref C10 == Value.ref C8) = false)
    (sb10_8 : PySem.W.subIn K (.ref C10) (.ref C8) = some false)
    (ne10_9 : (Value.ref C10 == Value.ref C9) = false)
    (sb10_9 : PySem.W.subIn K (.ref C10) (.ref C9) = some false)
    (lx0 : K.lookup fx0 = some ⟨ocx0, odx0, .func (PySem.W.fnOf "__init__" "BadName.__init__" (defArgs sXBadName) (defBody sXBadName) (defScope sXBadName) .none kVx0 dcx0 pmx0 anx0 cdx0 ctx0), slx0⟩) (cx0 : PySem.W.codeIn K cdx0 "BadName.__init__" = true) (kx0 : PySem.W.keepIn K (.ref fx0) = true)
    (lx1 : K.lookup fx1 = some ⟨ocx1, odx1, .func (PySem.W.fnOf "__init__" "NameTaken.__init__" (defArgs sXNameTaken) (defBody sXNameTaken) (defScope sXNameTaken) .none kVx1 dcx1 pmx1 anx1 cdx1 ctx1), slx1⟩) (cx1 : PySem.W.codeIn K cdx1 "NameTaken.__init__" = true) (kx1 : PySem.W.keepIn K (.ref fx1) = true)
    (lx2 : K.lookup fx2 = some ⟨ocx2, odx2, .func (PySem.W.fnOf "__init__" "UnknownName.__init__" (defArgs sXUnknownName) (defBody sXUnknownName) (defScope sXUnknownName) .none kVx2 dcx2 pmx2 anx2 cdx2 ctx2), slx2⟩) (cx2 : PySem.W.codeIn K cdx2 "UnknownName.__init__" = true) (kx2 : PySem.W.keepIn K (.ref fx2) = true)
    (lx3 : K.lookup fx3 = some ⟨ocx3, odx3, .func (PySem.W.fnOf "__init__" "UnlikeEnds.__init__" (defArgs sXUnlikeEnds) (defBody sXUnlikeEnds) (defScope sXUnlikeEnds) .none kVx3 dcx3 pmx3 anx3 cdx3 ctx3), slx3⟩) (cx3 : PySem.W.codeIn K cdx3 "UnlikeEnds.__init__" = true) (kx3 : PySem.W.keepIn K (.ref fx3) = true)
    (lx4 : K.lookup fx4 = some ⟨ocx4, odx4, .func (PySem.W.fnOf "__init__" "SamePart.__init__" (defArgs sXSamePart) (defBody sXSamePart) (defScope sXSamePart) .none kVx4 dcx4 pmx4 anx4 cdx4 ctx4), slx4⟩) (cx4 : PySem.W.codeIn K cdx4 "SamePart.__init__" = true) (kx4 : PySem.W.keepIn K (.ref fx4) = true)
    (lx5 : K.lookup fx5 = some ⟨ocx5, odx5, .func (PySem.W.fnOf "__init__" "TurnTwice.__init__" (defArgs sXTurnTwice) (defBody sXTurnTwice) (defScope sXTurnTwice) .none kVx5 dcx5 pmx5 anx5 cdx5 ctx5), slx5⟩) (cx5 : PySem.W.codeIn K cdx5 "TurnTwice.__init__" = true) (kx5 : PySem.W.keepIn K (.ref fx5) = true)
    (lx6 : K.lookup fx6 = some ⟨ocx6, odx6, .func (PySem.W.fnOf "__init__" "BadEnds.__init__" (defArgs sXBadEnds) (defBody sXBadEnds) (defScope sXBadEnds) .none kVx6 dcx6 pmx6 anx6 cdx6 ctx6), slx6⟩) (cx6 : PySem.W.codeIn K cdx6 "BadEnds.__init__" = true) (kx6 : PySem.W.keepIn K (.ref fx6) = true)
    (lx7 : K.lookup fx7 = some ⟨ocx7, odx7, .func (PySem.W.fnOf "__init__" "BadCount.__init__" (defArgs sXBadCount) (defBody sXBadCount) (defScope sXBadCount) .none kVx7 dcx7 pmx7 anx7 cdx7 ctx7), slx7⟩) (cx7 : PySem.W.codeIn K cdx7 "BadCount.__init__" = true) (kx7 : PySem.W.keepIn K (.ref fx7) = true)
    (lx8 : K.lookup fx8 = some ⟨ocx8, odx8, .func (PySem.W.fnOf "__init__" "BadOption.__init__" (defArgs sXBadOption) (defBody sXBadOption) (defScope sXBadOption) .none kVx8 dcx8 pmx8 anx8 cdx8 ctx8), slx8⟩) (cx8 : PySem.W.codeIn K cdx8 "BadOption.__init__" = true) (kx8 : PySem.W.keepIn K (.ref fx8) = true)
    (lx9 : K.lookup fx9 = some ⟨ocx9, odx9, .func (PySem.W.fnOf "__init__" "CardFull.__init__" (defArgs sXCardFull) (defBody sXCardFull) (defScope sXCardFull) .none kVx9 dcx9 pmx9 anx9 cdx9 ctx9), slx9⟩) (cx9 : PySem.W.codeIn K cdx9 "CardFull.__init__" = true) (kx9 : PySem.W.keepIn K (.ref fx9) = true) :
    ∃ fd : FuncData, (∀ (s : Shared) (v : Value), BindsTo s fd ⟨[v], []⟩ [("_law_script", v)]) ∧ ∀ base : Heap, K.In base → base.Ns mainGlobals mg → FnG l.prog w K mg base 13 fa fd ["_law_script"] (spLaw K) := by
  have F18 := fun_mk (st := sIsNm) l18 c18 k18
  let D18 : Df K mg "is_name" sIsNm ["text"] := ⟨f18, _, PySem.W.mg_of X G a18, F18, (F18.binds (ps := ["text"]) fun _ _ _ _ _ _ us hl => match us, hl with | [_], _ => rfl)⟩
  have F19 := fun_mk (st := sChn) l19 c19 k19
  let D19 : Df K mg "check_name" sChn ["text"] := ⟨f19, _, PySem.W.mg_of X G a19, F19, (F19.binds (ps := ["text"]) fun _ _ _ _ _ _ us hl => match us, hl with | [_], _ => rfl)⟩
  have F22 := fun_mk (st := sFof) l22 c22 k22
  let D22 : Df K mg "form_of" sFof ["constant", "terms"] := ⟨f22, _, PySem.W.mg_of X G a22, F22, (F22.binds (ps := ["constant", "terms"]) fun _ _ _ _ _ _ us hl => match us, hl with | [_, _], _ => rfl)⟩
  have F24 := fun_mk (st := sChk) l24 c24 k24
  let D24 : Df K mg "_check_ends" sChk ["first", "second"] := ⟨f24, _, PySem.W.mg_of X G a24, F24, (F24.binds (ps := ["first", "second"]) fun _ _ _ _ _ _ us hl => match us, hl with | [_, _], _ => rfl)⟩
  have F25 := fun_mk (st := sAdded) l25 c25 k25
  let D25 : Df K mg "_added" sAdded ["first", "second"] := ⟨f25, _, PySem.W.mg_of X G a25, F25, (F25.binds (ps := ["first", "second"]) fun _ _ _ _ _ _ us hl => match us, hl with | [_, _], _ => rfl)⟩
  have F30 := fun_mk (st := sSwh) l30 c30 k30
  let D30 : Df K mg "sorted_when" sSwh ["options"] := ⟨f30, _, PySem.W.mg_of X G a30, F30, (F30.binds (ps := ["options"]) fun _ _ _ _ _ _ us hl => match us, hl with | [_], _ => rfl)⟩
  have F31 := fun_mk (st := sCnn) l31 c31 k31
  let D31 : Df K mg "_check_new_name" sCnn ["card", "name"] := ⟨f31, _, PySem.W.mg_of X G a31, F31, (F31.binds (ps := ["card", "name"]) fun _ _ _ _ _ _ us hl => match us, hl with | [_, _], _ => rfl)⟩
  have F32 := fun_mk (st := sCro) l32 c32 k32
  let D32 : Df K mg "_check_room" sCro ["card", "kind"] := ⟨f32, _, PySem.W.mg_of X G a32, F32, (F32.binds (ps := ["card", "kind"]) fun _ _ _ _ _ _ us hl => match us, hl with | [_, _], _ => rfl)⟩
  have F33 := fun_mk (st := sCme) l33 c33 k33
  let D33 : Df K mg "_check_measures" sCme ["card", "form"] := ⟨f33, _, PySem.W.mg_of X G a33, F33, (F33.binds (ps := ["card", "form"]) fun _ _ _ _ _ _ us hl => match us, hl with | [_, _], _ => rfl)⟩
  have F34 := fun_mk (st := sCwh) l34 c34 k34
  let D34 : Df K mg "_checked_when" sCwh ["card", "when"] := ⟨f34, _, PySem.W.mg_of X G a34, F34, (F34.binds (ps := ["card", "when"]) fun _ _ _ _ _ _ us hl => match us, hl with | [_, _], _ => rfl)⟩
  have F36 := fun_mk (st := sMixed) l36 c36 k36
  let D36 : Df K mg "_law_mixed" sMixed ["_law_cell", "_law_place"] := ⟨f36, _, PySem.W.mg_of X G a36, F36, (F36.binds (ps := ["_law_cell", "_law_place"]) fun _ _ _ _ _ _ us hl => match us, hl with | [_, _], _ => rfl)⟩
  have F37 := fun_mk (st := sSource) l37 c37 k37
  let D37 : Df K mg "_law_source" sSource ["_law_script"] := ⟨f37, _, PySem.W.mg_of X G a37, F37, (F37.binds (ps := ["_law_script"]) fun _ _ _ _ _ _ us hl => match us, hl with | [_], _ => rfl)⟩
  have F38 := fun_mk (st := sTake) l38 c38 k38
  let D38 : Df K mg "_law_take" sTake ["_law_source_here", "_law_many"] := ⟨f38, _, PySem.W.mg_of X G a38, F38, (F38.binds (ps := ["_law_source_here", "_law_many"]) fun _ _ _ _ _ _ us hl => match us, hl with | [_, _], _ => rfl)⟩
  have F39 := fun_mk (st := sWord) l39 c39 k39
  let D39 : Df K mg "_law_word" sWord ["_law_source_here", "_law_size"] := ⟨f39, _, PySem.W.mg_of X G a39, F39, (F39.binds (ps := ["_law_source_here", "_law_size"]) fun _ _ _ _ _ _ us hl => match us, hl with | [_, _], _ => rfl)⟩
  have F40 := fun_mk (st := sNames) l40 c40 k40
  let D40 : Df K mg "_law_names" sNames ["_law_source_here", "_law_many"] := ⟨f40, _, PySem.W.mg_of X G a40, F40, (F40.binds (ps := ["_law_source_here", "_law_many"]) fun _ _ _ _ _ _ us hl => match us, hl with | [_, _], _ => rfl)⟩
  have F41 := fun_mk (st := sNumber) l41 c41 k41
  let D41 : Df K mg "_law_number" sNumber ["_law_source_here"] := ⟨f41, _, PySem.W.mg_of X G a41, F41, (F41.binds (ps := ["_law_source_here"]) fun _ _ _ _ _ _ us hl => match us, hl with | [_], _ => rfl)⟩
  have F42 := fun_mk (st := sIsN) l42 c42 k42
  let D42 : Df K mg "_law_is_number" sIsN ["_law_actual"] := ⟨f42, _, PySem.W.mg_of X G a42, F42, (F42.binds (ps := ["_law_actual"]) fun _ _ _ _ _ _ us hl => match us, hl with | [_], _ => rfl)⟩
  have F43 := fun_mk (st := sLnm) l43 c43 k43
  let D43 : Df K mg "_law_is_name" sLnm ["_law_word_here"] := ⟨f43, _, PySem.W.mg_of X G a43, F43, (F43.binds (ps := ["_law_word_here"]) fun _ _ _ _ _ _ us hl => match us, hl with | [_], _ => rfl)⟩
  have F44 := fun_mk (st := sSfo) l44 c44 k44
  let D44 : Df K mg "_law_same_form" sSfo ["_law_actual", "_law_own"] := ⟨f44, _, PySem.W.mg_of X G a44, F44, (F44.binds (ps := ["_law_actual", "_law_own"]) fun _ _ _ _ _ _ us hl => match us, hl with | [_, _], _ => rfl)⟩
  have F45 := fun_mk (st := sSru) l45 c45 k45
  let D45 : Df K mg "_law_same_rule" sSru ["_law_actual", "_law_own"] := ⟨f45, _, PySem.W.mg_of X G a45, F45, (F45.binds (ps := ["_law_actual", "_law_own"]) fun _ _ _ _ _ _ us hl => match us, hl with | [_, _], _ => rfl)⟩
  have F46 := fun_mk (st := sSac) l46 c46 k46
  let D46 : Df K mg "_law_same_act" sSac ["_law_actual", "_law_own"] := ⟨f46, _, PySem.W.mg_of X G a46, F46, (F46.binds (ps := ["_law_actual", "_law_own"]) fun _ _ _ _ _ _ us hl => match us, hl with | [_, _], _ => rfl)⟩
  have F47 := fun_mk (st := sSca) l47 c47 k47
  let D47 : Df K mg "_law_same_card" sSca ["_law_card", "_law_model"] := ⟨f47, _, PySem.W.mg_of X G a47, F47, (F47.binds (ps := ["_law_card", "_law_model"]) fun _ _ _ _ _ _ us hl => match us, hl with | [_, _], _ => rfl)⟩
  have F48 := fun_mk (st := sLeo) l48 c48 k48
  let D48 : Df K mg "_law_ends_of" sLeo ["_law_model", "_law_word_here"] := ⟨f48, _, PySem.W.mg_of X G a48, F48, (F48.binds (ps := ["_law_model", "_law_word_here"]) fun _ _ _ _ _ _ us hl => match us, hl with | [_, _], _ => rfl)⟩
  have F49 := fun_mk (st := sLoo) l49 c49 k49
  let D49 : Df K mg "_law_options_of" sLoo ["_law_model", "_law_word_here"] := ⟨f49, _, PySem.W.mg_of X G a49, F49, (F49.binds (ps := ["_law_model", "_law_word_here"]) fun _ _ _ _ _ _ us hl => match us, hl with | [_, _], _ => rfl)⟩
  have F50 := fun_mk (st := sSdu) l50 c50 k50
  let D50 : Df K mg "_law_step_due" sSdu ["_law_model", "_law_call_here"] := ⟨f50, _, PySem.W.mg_of X G a50, F50, (F50.binds (ps := ["_law_model", "_law_call_here"]) fun _ _ _ _ _ _ us hl => match us, hl with | [_, _], _ => rfl)⟩
  have F51 := fun_mk (st := sRdu) l51 c51 k51
  let D51 : Df K mg "_law_rule_due" sRdu ["_law_model", "_law_call_here"] := ⟨f51, _, PySem.W.mg_of X G a51, F51, (F51.binds (ps := ["_law_model", "_law_call_here"]) fun _ _ _ _ _ _ us hl => match us, hl with | [_, _], _ => rfl)⟩
  have F52 := fun_mk (st := sRai) l52 c52 k52
  let D52 : Df K mg "_law_raised" sRai ["_law_e"] := ⟨f52, _, PySem.W.mg_of X G a52, F52, (F52.binds (ps := ["_law_e"]) fun _ _ _ _ _ _ us hl => match us, hl with | [_], _ => rfl)⟩
  have F53 := fun_mk (st := sCal) l53 c53 k53
  let D53 : Df K mg "_law_call" sCal ["_law_card", "_law_call_here"] := ⟨f53, _, PySem.W.mg_of X G a53, F53, (F53.binds (ps := ["_law_card", "_law_call_here"]) fun _ _ _ _ _ _ us hl => match us, hl with | [_, _], _ => rfl)⟩
  have F54 := fun_mk (st := sPio) l54 c54 k54
  let D54 : Df K mg "_law_pairs_in_order" sPio ["_law_pairs"] := ⟨f54, _, PySem.W.mg_of X G a54, F54, (F54.binds (ps := ["_law_pairs"]) fun _ _ _ _ _ _ us hl => match us, hl with | [_], _ => rfl)⟩
  have F55 := fun_mk (st := sAct) l55 c55 k55
  let D55 : Df K mg "_law_act" sAct ["_law_call_here"] := ⟨f55, _, PySem.W.mg_of X G a55, F55, (F55.binds (ps := ["_law_call_here"]) fun _ _ _ _ _ _ us hl => match us, hl with | [_], _ => rfl)⟩
  have F56 := fun_mk (st := sTol) l56 c56 k56
  let D56 : Df K mg "_law_told" sTol ["_law_card", "_law_model", "_law_call_here"] := ⟨f56, _, PySem.W.mg_of X G a56, F56, (F56.binds (ps := ["_law_card", "_law_model", "_law_call_here"]) fun _ _ _ _ _ _ us hl => match us, hl with | [_, _, _], _ => rfl)⟩
  have F57 := fun_mk (st := sAny) l57 c57 k57
  let D57 : Df K mg "_law_any" sAny ["_law_source_here", "_law_first", "_law_second"] := ⟨f57, _, PySem.W.mg_of X G a57, F57, (F57.binds (ps := ["_law_source_here", "_law_first", "_law_second"]) fun _ _ _ _ _ _ us hl => match us, hl with | [_, _, _], _ => rfl)⟩
  have F58 := fun_mk (st := sScl) l58 c58 k58
  let D58 : Df K mg "_law_step_call" sScl ["_law_source_here", "_law_label", "_law_names_here"] := ⟨f58, _, PySem.W.mg_of X G a58, F58, (F58.binds (ps := ["_law_source_here", "_law_label", "_law_names_here"]) fun _ _ _ _ _ _ us hl => match us, hl with | [_, _, _], _ => rfl)⟩
  have F59 := fun_mk (st := sNen) l59 c59 k59
  let D59 : Df K mg "_law_near_ends" sNen ["_law_source_here", "_law_ends"] := ⟨f59, _, PySem.W.mg_of X G a59, F59, (F59.binds (ps := ["_law_source_here", "_law_ends"]) fun _ _ _ _ _ _ us hl => match us, hl with | [_, _], _ => rfl)⟩
  have F60 := fun_mk (st := sFdr) l60 c60 k60
  let D60 : Df K mg "_law_form_draw" sFdr ["_law_source_here", "_law_model", "_law_names_here"] := ⟨f60, _, PySem.W.mg_of X G a60, F60, (F60.binds (ps := ["_law_source_here", "_law_model", "_law_names_here"]) fun _ _ _ _ _ _ us hl => match us, hl with | [_, _, _], _ => rfl)⟩
  have F61 := fun_mk (st := sRcl) l61 c61 k61
  let D61 : Df K mg "_law_rule_call" sRcl ["_law_source_here", "_law_model", "_law_names_here"] := ⟨f61, _, PySem.W.mg_of X G a61, F61, (F61.binds (ps := ["_law_source_here", "_law_model", "_law_names_here"]) fun _ _ _ _ _ _ us hl => match us, hl with | [_, _, _], _ => rfl)⟩
  have F62 := fun_mk (st := sDrc) l62 c62 k62
  let D62 : Df K mg "_law_draw_call" sDrc ["_law_source_here", "_law_model", "_law_names_here", "_law_favour"] := ⟨f62, _, PySem.W.mg_of X G a62, F62, (F62.binds (ps := ["_law_source_here", "_law_model", "_law_names_here", "_law_favour"]) fun _ _ _ _ _ _ us hl => match us, hl with | [_, _, _, _], _ => rfl)⟩
  have F63 := fun_mk (st := sBeg) l63 c63 k63
  let D63 : Df K mg "_law_beginning" sBeg ["_law_source_here", "_law_names_here"] := ⟨f63, _, PySem.W.mg_of X G a63, F63, (F63.binds (ps := ["_law_source_here", "_law_names_here"]) fun _ _ _ _ _ _ us hl => match us, hl with | [_, _], _ => rfl)⟩
  have F64 := fun_mk (st := sLaw) l64 c64 k64
  let D64 : Df K mg "law" sLaw ["_law_script"] := ⟨f64, _, PySem.W.mg_of X G a64, F64, (F64.binds (ps := ["_law_script"]) fun _ _ _ _ _ _ us hl => match us, hl with | [_], _ => rfl)⟩
  have F23 := fun_mk (st := sMea) l23 c23 k23
  have FmI := fun_mk (st := sIni) lmI cmI kmI
  let MI : Mf K C "__init__" "Form.__init__" sIni ["self", "constant"] := ⟨fmI, _, ⟨amI, imI, kmI⟩, FmI, (FmI.binds (ps := ["self", "constant"]) fun _ _ _ _ _ _ us hl => match us, hl with | [_, _], _ => rfl)⟩
  have FmA := fun_mk (st := sAdd) lmA cmA kmA
  let MA : Mf K C "__add__" "Form.__add__" sAdd ["self", "other"] := ⟨fmA, _, ⟨amA, imA, kmA⟩, FmA, (FmA.binds (ps := ["self", "other"]) fun _ _ _ _ _ _ us hl => match us, hl with | [_, _], _ => rfl)⟩
  have FmM := fun_mk (st := sMul) lmM cmM kmM
  let MM : Mf K C "__mul__" "Form.__mul__" sMul ["self", "other"] := ⟨fmM, _, ⟨amM, imM, kmM⟩, FmM, (FmM.binds (ps := ["self", "other"]) fun _ _ _ _ _ _ us hl => match us, hl with | [_, _], _ => rfl)⟩
  have FmR := fun_mk (st := sRmu) lmR cmR kmR
  let MR : Mf K C "__rmul__" "Form.__rmul__" sRmu ["self", "other"] := ⟨fmR, _, ⟨amR, imR, kmR⟩, FmR, (FmR.binds (ps := ["self", "other"]) fun _ _ _ _ _ _ us hl => match us, hl with | [_, _], _ => rfl)⟩
  have FmD0 := fun_mk (st := sCini) lmD0 cmD0 kmD0
  let MD0 : Mf K D "__init__" "Card.__init__" sCini ["self"] := ⟨fmD0, _, ⟨amD0, imD0, kmD0⟩, FmD0, (FmD0.binds (ps := ["self"]) fun _ _ _ _ _ _ us hl => match us, hl with | [_], _ => rfl)⟩
  have FmDI := fun_mk (st := sCin) lmDI cmDI kmDI
  let MDI : Mf K D "__contains__" "Card.__contains__" sCin ["self", "x"] := ⟨fmDI, _, ⟨amDI, imDI, kmDI⟩, FmDI, (FmDI.binds (ps := ["self", "x"]) fun _ _ _ _ _ _ us hl => match us, hl with | [_, _], _ => rfl)⟩
  have FmD1 := fun_mk (st := sCme1) lmD1 cmD1 kmD1
  let MD1 : Mn K D "measure" "Card.measure" sCme1 := ⟨fmD1, _, ⟨amD1, imD1, kmD1⟩, FmD1⟩
  have FmD2 := fun_mk (st := sCtu) lmD2 cmD2 kmD2
  let MD2 : Mn K D "turn" "Card.turn" sCtu := ⟨fmD2, _, ⟨amD2, imD2, kmD2⟩, FmD2⟩
  have FmD3 := fun_mk (st := sCpa) lmD3 cmD3 kmD3
  let MD3 : Mf K D "part" "Card.part" sCpa ["self", "name"] := ⟨fmD3, _, ⟨amD3, imD3, kmD3⟩, FmD3, (FmD3.binds (ps := ["self", "name"]) fun _ _ _ _ _ _ us hl => match us, hl with | [_, _], _ => rfl)⟩
  have FmD4 := fun_mk (st := sCru) lmD4 cmD4 kmD4
  let MD4 : Mn K D "rule" "Card.rule" sCru := ⟨fmD4, _, ⟨amD4, imD4, kmD4⟩, FmD4⟩
  have FmD5 := fun_mk (st := sCba) lmD5 cmD5 kmD5
  let MD5 : Mf K D "back" "Card.back" sCba ["self"] := ⟨fmD5, _, ⟨amD5, imD5, kmD5⟩, FmD5, (FmD5.binds (ps := ["self"]) fun _ _ _ _ _ _ us hl => match us, hl with | [_], _ => rfl)⟩
  have FmD6 := fun_mk (st := sCfo) lmD6 cmD6 kmD6
  let MD6 : Mf K D "form" "Card.form" sCfo ["self", "name"] := ⟨fmD6, _, ⟨amD6, imD6, kmD6⟩, FmD6, (FmD6.binds (ps := ["self", "name"]) fun _ _ _ _ _ _ us hl => match us, hl with | [_, _], _ => rfl)⟩
  have FPA := fun_mk (st := sActs) lPA cPA kPA
  have bPA := (FPA.binds (ps := ["self"]) fun _ _ _ _ _ _ us hl => match us, hl with | [_], _ => rfl)
  have PPA : PropOf K D "acts" pPA fPA := ⟨aPA, gPA, tPA, rePA, rPA⟩
  have FPS := fun_mk (st := sSteps) lPS cPS kPS
  have bPS := (FPS.binds (ps := ["self"]) fun _ _ _ _ _ _ us hl => match us, hl with | [_], _ => rfl)
  have PPS : PropOf K D "steps" pPS fPS := ⟨aPS, gPS, tPS, rePS, rPS⟩
  have FPR := fun_mk (st := sRules) lPR cPR kPR
  have bPR := (FPR.binds (ps := ["self"]) fun _ _ _ _ _ _ us hl => match us, hl with | [_], _ => rfl)
  have PPR : PropOf K D "rules" pPR fPR := ⟨aPR, gPR, tPR, rePR, rPR⟩
  have qint := PySem.W.mg_none_of X G zint
  have qabs := PySem.W.mg_none_of X G zabs
  have qlen := PySem.W.mg_none_of X G zlen
  have qlist := PySem.W.mg_none_of X G zlist
  have qrange := PySem.W.mg_none_of X G zrange
  have qsorted := PySem.W.mg_none_of X G zsorted
  have qstr := PySem.W.mg_none_of X G zstr
  have qisinstance := PySem.W.mg_none_of X G zisinstance
  have qbool := PySem.W.mg_none_of X G zbool
  have qmax := PySem.W.mg_none_of X G zmax
  have qtuple := PySem.W.mg_none_of X G ztuple
  have qzip := PySem.W.mg_none_of X G zzip
  have qall := PySem.W.mg_none_of X G zall
  have qrepr := PySem.W.mg_none_of X G zrepr
  have qValueError := PySem.W.mg_none_of X G zValueError
  have T : Frm K mg C := ⟨⟨pg, hd, po, sa⟩, nC, nT, PySem.W.mg_of X G aC, sf, ha, hn, ht, hm, kit_self, kit_cls (Bool.eq_false_iff.mpr fun q => by cases beq_iff_eq.mp q) ic ty sI, kit_typ (by decide +kernel) sJ, nF, sJ, sI⟩
  have TD : Crd K mg D := ⟨⟨pgD, hdD, poD, saD⟩, nAD, PySem.W.mg_of X G aD⟩
  have TM : FrmM K C := ⟨im, ir⟩
  have MK : Mk K C MI.f := ⟨mk, amI, imI, kc⟩
  have MKC : Mk K D MD0.f := ⟨mkD, amD0, imD0, kcD⟩
  have N : Nam mg := ⟨⟨_, PySem.W.mg_of X G vFR⟩, ⟨_, PySem.W.mg_of X G vFS⟩, ⟨_, by rw [azn_lit]; exact PySem.W.mg_of X G vLS⟩, ⟨_, PySem.W.mg_of X G vLN⟩⟩
  have Fx0 := fun_mk (st := sXBadName) lx0 cx0 kx0
  have ox0 : OexC K C0 := ⟨⟨_, _, _, _, _, _, _, _, _, _, _, _, _, _, _, xL0, by rfl⟩, xs0, xe0, tC0, xK0⟩
  let X0 : Xc K mg "BadName" "BadName.__init__" sXBadName ["name"] ["self", "name"] := ⟨C0, fx0, _, PySem.W.mg_of X G aC0, ox0, xi0, xt0, Fx0, (Fx0.binds (ps := ["self", "name"]) fun _ _ _ _ _ _ us hl => match us, hl with | [_, _], _ => rfl), fun g hg => by
      simp only [List.mem_cons, List.not_mem_nil, or_false] at hg
      obtain rfl := hg
      exact xname0⟩
  have Fx1 := fun_mk (st := sXNameTaken) lx1 cx1 kx1
  have ox1 : OexC K C1 := ⟨⟨_, _, _, _, _, _, _, _, _, _, _, _, _, _, _, xL1, by rfl⟩, xs1, xe1, tC1, xK1⟩
  let X1 : Xc K mg "NameTaken" "NameTaken.__init__" sXNameTaken ["name"] ["self", "name"] := ⟨C1, fx1, _, PySem.W.mg_of X G aC1, ox1, xi1, xt1, Fx1, (Fx1.binds (ps := ["self", "name"]) fun _ _ _ _ _ _ us hl => match us, hl with | [_, _], _ => rfl), fun g hg => by
      simp only [List.mem_cons, List.not_mem_nil, or_false] at hg
      obtain rfl := hg
      exact xname1⟩
  have Fx2 := fun_mk (st := sXUnknownName) lx2 cx2 kx2
  have ox2 : OexC K C2 := ⟨⟨_, _, _, _, _, _, _, _, _, _, _, _, _, _, _, xL2, by rfl⟩, xs2, xe2, tC2, xK2⟩
  let X2 : Xc K mg "UnknownName" "UnknownName.__init__" sXUnknownName ["name"] ["self", "name"] := ⟨C2, fx2, _, PySem.W.mg_of X G aC2, ox2, xi2, xt2, Fx2, (Fx2.binds (ps := ["self", "name"]) fun _ _ _ _ _ _ us hl => match us, hl with | [_, _], _ => rfl), fun g hg => by
      simp only [List.mem_cons, List.not_mem_nil, or_false] at hg
      obtain rfl := hg
      exact xname2⟩
  have Fx3 := fun_mk (st := sXUnlikeEnds) lx3 cx3 kx3
  have ox3 : OexC K C3 := ⟨⟨_, _, _, _, _, _, _, _, _, _, _, _, _, _, _, xL3, by rfl⟩, xs3, xe3, tC3, xK3⟩
  let X3 : Xc K mg "UnlikeEnds" "UnlikeEnds.__init__" sXUnlikeEnds ["name"] ["self", "name"] := ⟨C3, fx3, _, PySem.W.mg_of X G aC3, ox3, xi3, xt3, Fx3, (Fx3.binds (ps := ["self", "name"]) fun _ _ _ _ _ _ us hl => match us, hl with | [_, _], _ => rfl), fun g hg => by
      simp only [List.mem_cons, List.not_mem_nil, or_false] at hg
      obtain rfl := hg
      exact xname3⟩
  have Fx4 := fun_mk (st := sXSamePart) lx4 cx4 kx4
  have ox4 : OexC K C4 := ⟨⟨_, _, _, _, _, _, _, _, _, _, _, _, _, _, _, xL4, by rfl⟩, xs4, xe4, tC4, xK4⟩
  let X4 : Xc K mg "SamePart" "SamePart.__init__" sXSamePart ["name"] ["self", "name"] := ⟨C4, fx4, _, PySem.W.mg_of X G aC4, ox4, xi4, xt4, Fx4, (Fx4.binds (ps := ["self", "name"]) fun _ _ _ _ _ _ us hl => match us, hl with | [_, _], _ => rfl), fun g hg => by
      simp only [List.mem_cons, List.not_mem_nil, or_false] at hg
      obtain rfl := hg
      exact xname4⟩
  have Fx5 := fun_mk (st := sXTurnTwice) lx5 cx5 kx5
  have ox5 : OexC K C5 := ⟨⟨_, _, _, _, _, _, _, _, _, _, _, _, _, _, _, xL5, by rfl⟩, xs5, xe5, tC5, xK5⟩
  let X5 : Xc K mg "TurnTwice" "TurnTwice.__init__" sXTurnTwice ["name"] ["self", "name"] := ⟨C5, fx5, _, PySem.W.mg_of X G aC5, ox5, xi5, xt5, Fx5, (Fx5.binds (ps := ["self", "name"]) fun _ _ _ _ _ _ us hl => match us, hl with | [_, _], _ => rfl), fun g hg => by
      simp only [List.mem_cons, List.not_mem_nil, or_false] at hg
      obtain rfl := hg
      exact xname5⟩
  have Fx6 := fun_mk (st := sXBadEnds) lx6 cx6 kx6
  have ox6 : OexC K C6 := ⟨⟨_, _, _, _, _, _, _, _, _, _, _, _, _, _, _, xL6, by rfl⟩, xs6, xe6, tC6, xK6⟩
  let X6 : Xc K mg "BadEnds" "BadEnds.__init__" sXBadEnds ["low", "high"] ["self", "low", "high"] := ⟨C6, fx6, _, PySem.W.mg_of X G aC6, ox6, xi6, xt6, Fx6, (Fx6.binds (ps := ["self", "low", "high"]) fun _ _ _ _ _ _ us hl => match us, hl with | [_, _, _], _ => rfl), fun g hg => by
      simp only [List.mem_cons, List.not_mem_nil, or_false] at hg
      rcases hg with rfl | rfl
      · exact xlow6
      · exact xhigh6⟩
  have Fx7 := fun_mk (st := sXBadCount) lx7 cx7 kx7
  have ox7 : OexC K C7 := ⟨⟨_, _, _, _, _, _, _, _, _, _, _, _, _, _, _, xL7, by rfl⟩, xs7, xe7, tC7, xK7⟩
  let X7 : Xc K mg "BadCount" "BadCount.__init__" sXBadCount ["options"] ["self", "options"] := ⟨C7, fx7, _, PySem.W.mg_of X G aC7, ox7, xi7, xt7, Fx7, (Fx7.binds (ps := ["self", "options"]) fun _ _ _ _ _ _ us hl => match us, hl with | [_, _], _ => rfl), fun g hg => by
      simp only [List.mem_cons, List.not_mem_nil, or_false] at hg
      obtain rfl := hg
      exact xoptions7⟩
  have Fx8 := fun_mk (st := sXBadOption) lx8 cx8 kx8
  have ox8 : OexC K C8 := ⟨⟨_, _, _, _, _, _, _, _, _, _, _, _, _, _, _, xL8, by rfl⟩, xs8, xe8, tC8, xK8⟩
  let X8 : Xc K mg "BadOption" "BadOption.__init__" sXBadOption ["name", "option"] ["self", "name", "option"] := ⟨C8, fx8, _, PySem.W.mg_of X G aC8, ox8, xi8, xt8, Fx8, (Fx8.binds (ps := ["self", "name", "option"]) fun _ _ _ _ _ _ us hl => match us, hl with | [_, _, _], _ => rfl), fun g hg => by
      simp only [List.mem_cons, List.not_mem_nil, or_false] at hg
      rcases hg with rfl | rfl
      · exact xname8
      · exact xoption8⟩
  have Fx9 := fun_mk (st := sXCardFull) lx9 cx9 kx9
  have ox9 : OexC K C9 := ⟨⟨_, _, _, _, _, _, _, _, _, _, _, _, _, _, _, xL9, by rfl⟩, xs9, xe9, tC9, xK9⟩
  let X9 : Xc K mg "CardFull" "CardFull.__init__" sXCardFull ["kind"] ["self", "kind"] := ⟨C9, fx9, _, PySem.W.mg_of X G aC9, ox9, xi9, xt9, Fx9, (Fx9.binds (ps := ["self", "kind"]) fun _ _ _ _ _ _ us hl => match us, hl with | [_, _], _ => rfl), fun g hg => by
      simp only [List.mem_cons, List.not_mem_nil, or_false] at hg
      obtain rfl := hg
      exact xkind9⟩
  let XS : Xs K mg := ⟨X0, X1, X2, X3, X4, X5, X6, X7, X8, X9, C10, PySem.W.mg_of X G aC10, xK10, xe10, tC10, xN10⟩
  have R0 : RaiC K XS 0 := ⟨⟨iC0, xg0, xk0, xe0, xd0, xa0, hn, ht, xm0⟩, fun g hg => by
      simp only [List.mem_cons, List.not_mem_nil, or_false] at hg
      rcases hg with rfl | rfl | rfl | rfl | rfl | rfl
      · exact xname0
      · exact xlow0
      · exact xhigh0
      · exact xoptions0
      · exact xoption0
      · exact xkind0, fun j hj => by
      match j, hj with
      | 0, _ => exact kit_self
      | 1, _ => exact kit_cls ne0_1 iC1 tC1 sb0_1
      | 2, _ => exact kit_cls ne0_2 iC2 tC2 sb0_2
      | 3, _ => exact kit_cls ne0_3 iC3 tC3 sb0_3
      | 4, _ => exact kit_cls ne0_4 iC4 tC4 sb0_4
      | 5, _ => exact kit_cls ne0_5 iC5 tC5 sb0_5
      | 6, _ => exact kit_cls ne0_6 iC6 tC6 sb0_6
      | 7, _ => exact kit_cls ne0_7 iC7 tC7 sb0_7
      | 8, _ => exact kit_cls ne0_8 iC8 tC8 sb0_8
      | 9, _ => exact kit_cls ne0_9 iC9 tC9 sb0_9
      | 10, _ => exact kit_cls ne0_10 iC10 tC10 sb0_10
      | j + 11, hj => exact absurd hj (by omega), kit_typ (by decide +kernel) xv0⟩
  have y0 := exm_sup eCO iCO tCO xo0
  have R1 : RaiC K XS 1 := ⟨⟨iC1, xg1, xk1, xe1, xd1, xa1, hn, ht, xm1⟩, fun g hg => by
      simp only [List.mem_cons, List.not_mem_nil, or_false] at hg
      rcases hg with rfl | rfl | rfl | rfl | rfl | rfl
      · exact xname1
      · exact xlow1
      · exact xhigh1
      · exact xoptions1
      · exact xoption1
      · exact xkind1, fun j hj => by
      match j, hj with
      | 0, _ => exact kit_cls ne1_0 iC0 tC0 sb1_0
      | 1, _ => exact kit_self
      | 2, _ => exact kit_cls ne1_2 iC2 tC2 sb1_2
      | 3, _ => exact kit_cls ne1_3 iC3 tC3 sb1_3
      | 4, _ => exact kit_cls ne1_4 iC4 tC4 sb1_4
      | 5, _ => exact kit_cls ne1_5 iC5 tC5 sb1_5
      | 6, _ => exact kit_cls ne1_6 iC6 tC6 sb1_6
      | 7, _ => exact kit_cls ne1_7 iC7 tC7 sb1_7
      | 8, _ => exact kit_cls ne1_8 iC8 tC8 sb1_8
      | 9, _ => exact kit_cls ne1_9 iC9 tC9 sb1_9
      | 10, _ => exact kit_cls ne1_10 iC10 tC10 sb1_10
      | j + 11, hj => exact absurd hj (by omega), kit_typ (by decide +kernel) xv1⟩
  have y1 := exm_sup eCO iCO tCO xo1
  have R2 : RaiC K XS 2 := ⟨⟨iC2, xg2, xk2, xe2, xd2, xa2, hn, ht, xm2⟩, fun g hg => by
      simp only [List.mem_cons, List.not_mem_nil, or_false] at hg
      rcases hg with rfl | rfl | rfl | rfl | rfl | rfl
      · exact xname2
      · exact xlow2
      · exact xhigh2
      · exact xoptions2
      · exact xoption2
      · exact xkind2, fun j hj => by
      match j, hj with
      | 0, _ => exact kit_cls ne2_0 iC0 tC0 sb2_0
      | 1, _ => exact kit_cls ne2_1 iC1 tC1 sb2_1
      | 2, _ => exact kit_self
      | 3, _ => exact kit_cls ne2_3 iC3 tC3 sb2_3
      | 4, _ => exact kit_cls ne2_4 iC4 tC4 sb2_4
      | 5, _ => exact kit_cls ne2_5 iC5 tC5 sb2_5
      | 6, _ => exact kit_cls ne2_6 iC6 tC6 sb2_6
      | 7, _ => exact kit_cls ne2_7 iC7 tC7 sb2_7
      | 8, _ => exact kit_cls ne2_8 iC8 tC8 sb2_8
      | 9, _ => exact kit_cls ne2_9 iC9 tC9 sb2_9
      | 10, _ => exact kit_cls ne2_10 iC10 tC10 sb2_10
      | j + 11, hj => exact absurd hj (by omega), kit_typ (by decide +kernel) xv2⟩
  have y2 := exm_sup eCO iCO tCO xo2
  have R3 : RaiC K XS 3 := ⟨⟨iC3, xg3, xk3, xe3, xd3, xa3, hn, ht, xm3⟩, fun g hg => by
      simp only [List.mem_cons, List.not_mem_nil, or_false] at hg
      rcases hg with rfl | rfl | rfl | rfl | rfl | rfl
      · exact xname3
      · exact xlow3
      · exact xhigh3
      · exact xoptions3
      · exact xoption3
      · exact xkind3, fun j hj => by
      match j, hj with
      | 0, _ => exact kit_cls ne3_0 iC0 tC0 sb3_0
      | 1, _ => exact kit_cls ne3_1 iC1 tC1 sb3_1
      | 2, _ => exact kit_cls ne3_2 iC2 tC2 sb3_2
      | 3, _ => exact kit_self
      | 4, _ => exact kit_cls ne3_4 iC4 tC4 sb3_4
      | 5, _ => exact kit_cls ne3_5 iC5 tC5 sb3_5
      | 6, _ => exact kit_cls ne3_6 iC6 tC6 sb3_6
      | 7, _ => exact kit_cls ne3_7 iC7 tC7 sb3_7
      | 8, _ => exact kit_cls ne3_8 iC8 tC8 sb3_8
      | 9, _ => exact kit_cls ne3_9 iC9 tC9 sb3_9
      | 10, _ => exact kit_cls ne3_10 iC10 tC10 sb3_10
      | j + 11, hj => exact absurd hj (by omega), kit_typ (by decide +kernel) xv3⟩
  have y3 := exm_sup eCO iCO tCO xo3
  have R4 : RaiC K XS 4 := ⟨⟨iC4, xg4, xk4, xe4, xd4, xa4, hn, ht, xm4⟩, fun g hg => by
      simp only [List.mem_cons, List.not_mem_nil, or_false] at hg
      rcases hg with rfl | rfl | rfl | rfl | rfl | rfl
      · exact xname4
      · exact xlow4
      · exact xhigh4
      · exact xoptions4
      · exact xoption4
      · exact xkind4, fun j hj => by
      match j, hj with
      | 0, _ => exact kit_cls ne4_0 iC0 tC0 sb4_0
      | 1, _ => exact kit_cls ne4_1 iC1 tC1 sb4_1
      | 2, _ => exact kit_cls ne4_2 iC2 tC2 sb4_2
      | 3, _ => exact kit_cls ne4_3 iC3 tC3 sb4_3
      | 4, _ => exact kit_self
      | 5, _ => exact kit_cls ne4_5 iC5 tC5 sb4_5
      | 6, _ => exact kit_cls ne4_6 iC6 tC6 sb4_6
      | 7, _ => exact kit_cls ne4_7 iC7 tC7 sb4_7
      | 8, _ => exact kit_cls ne4_8 iC8 tC8 sb4_8
      | 9, _ => exact kit_cls ne4_9 iC9 tC9 sb4_9
      | 10, _ => exact kit_cls ne4_10 iC10 tC10 sb4_10
      | j + 11, hj => exact absurd hj (by omega), kit_typ (by decide +kernel) xv4⟩
  have y4 := exm_sup eCO iCO tCO xo4
  have R5 : RaiC K XS 5 := ⟨⟨iC5, xg5, xk5, xe5, xd5, xa5, hn, ht, xm5⟩, fun g hg => by
      simp only [List.mem_cons, List.not_mem_nil, or_false] at hg
      rcases hg with rfl | rfl | rfl | rfl | rfl | rfl
      · exact xname5
      · exact xlow5
      · exact xhigh5
      · exact xoptions5
      · exact xoption5
      · exact xkind5, fun j hj => by
      match j, hj with
      | 0, _ => exact kit_cls ne5_0 iC0 tC0 sb5_0
      | 1, _ => exact kit_cls ne5_1 iC1 tC1 sb5_1
      | 2, _ => exact kit_cls ne5_2 iC2 tC2 sb5_2
      | 3, _ => exact kit_cls ne5_3 iC3 tC3 sb5_3
      | 4, _ => exact kit_cls ne5_4 iC4 tC4 sb5_4
      | 5, _ => exact kit_self
      | 6, _ => exact kit_cls ne5_6 iC6 tC6 sb5_6
      | 7, _ => exact kit_cls ne5_7 iC7 tC7 sb5_7
      | 8, _ => exact kit_cls ne5_8 iC8 tC8 sb5_8
      | 9, _ => exact kit_cls ne5_9 iC9 tC9 sb5_9
      | 10, _ => exact kit_cls ne5_10 iC10 tC10 sb5_10
      | j + 11, hj => exact absurd hj (by omega), kit_typ (by decide +kernel) xv5⟩
  have y5 := exm_sup eCO iCO tCO xo5
  have R6 : RaiC K XS 6 := ⟨⟨iC6, xg6, xk6, xe6, xd6, xa6, hn, ht, xm6⟩, fun g hg => by
      simp only [List.mem_cons, List.not_mem_nil, or_false] at hg
      rcases hg with rfl | rfl | rfl | rfl | rfl | rfl
      · exact xname6
      · exact xlow6
      · exact xhigh6
      · exact xoptions6
      · exact xoption6
      · exact xkind6, fun j hj => by
      match j, hj with
      | 0, _ => exact kit_cls ne6_0 iC0 tC0 sb6_0
      | 1, _ => exact kit_cls ne6_1 iC1 tC1 sb6_1
      | 2, _ => exact kit_cls ne6_2 iC2 tC2 sb6_2
      | 3, _ => exact kit_cls ne6_3 iC3 tC3 sb6_3
      | 4, _ => exact kit_cls ne6_4 iC4 tC4 sb6_4
      | 5, _ => exact kit_cls ne6_5 iC5 tC5 sb6_5
      | 6, _ => exact kit_self
      | 7, _ => exact kit_cls ne6_7 iC7 tC7 sb6_7
      | 8, _ => exact kit_cls ne6_8 iC8 tC8 sb6_8
      | 9, _ => exact kit_cls ne6_9 iC9 tC9 sb6_9
      | 10, _ => exact kit_cls ne6_10 iC10 tC10 sb6_10
      | j + 11, hj => exact absurd hj (by omega), kit_typ (by decide +kernel) xv6⟩
  have y6 := exm_sup eCO iCO tCO xo6
  have R7 : RaiC K XS 7 := ⟨⟨iC7, xg7, xk7, xe7, xd7, xa7, hn, ht, xm7⟩, fun g hg => by
      simp only [List.mem_cons, List.not_mem_nil, or_false] at hg
      rcases hg with rfl | rfl | rfl | rfl | rfl | rfl
      · exact xname7
      · exact xlow7
      · exact xhigh7
      · exact xoptions7
      · exact xoption7
      · exact xkind7, fun j hj => by
      match j, hj with
      | 0, _ => exact kit_cls ne7_0 iC0 tC0 sb7_0
      | 1, _ => exact kit_cls ne7_1 iC1 tC1 sb7_1
      | 2, _ => exact kit_cls ne7_2 iC2 tC2 sb7_2
      | 3, _ => exact kit_cls ne7_3 iC3 tC3 sb7_3
      | 4, _ => exact kit_cls ne7_4 iC4 tC4 sb7_4
      | 5, _ => exact kit_cls ne7_5 iC5 tC5 sb7_5
      | 6, _ => exact kit_cls ne7_6 iC6 tC6 sb7_6
      | 7, _ => exact kit_self
      | 8, _ => exact kit_cls ne7_8 iC8 tC8 sb7_8
      | 9, _ => exact kit_cls ne7_9 iC9 tC9 sb7_9
      | 10, _ => exact kit_cls ne7_10 iC10 tC10 sb7_10
      | j + 11, hj => exact absurd hj (by omega), kit_typ (by decide +kernel) xv7⟩
  have y7 := exm_sup eCO iCO tCO xo7
  have R8 : RaiC K XS 8 := ⟨⟨iC8, xg8, xk8, xe8, xd8, xa8, hn, ht, xm8⟩, fun g hg => by
      simp only [List.mem_cons, List.not_mem_nil, or_false] at hg
      rcases hg with rfl | rfl | rfl | rfl | rfl | rfl
      · exact xname8
      · exact xlow8
      · exact xhigh8
      · exact xoptions8
      · exact xoption8
      · exact xkind8, fun j hj => by
      match j, hj with
      | 0, _ => exact kit_cls ne8_0 iC0 tC0 sb8_0
      | 1, _ => exact kit_cls ne8_1 iC1 tC1 sb8_1
      | 2, _ => exact kit_cls ne8_2 iC2 tC2 sb8_2
      | 3, _ => exact kit_cls ne8_3 iC3 tC3 sb8_3
      | 4, _ => exact kit_cls ne8_4 iC4 tC4 sb8_4
      | 5, _ => exact kit_cls ne8_5 iC5 tC5 sb8_5
      | 6, _ => exact kit_cls ne8_6 iC6 tC6 sb8_6
      | 7, _ => exact kit_cls ne8_7 iC7 tC7 sb8_7
      | 8, _ => exact kit_self
      | 9, _ => exact kit_cls ne8_9 iC9 tC9 sb8_9
      | 10, _ => exact kit_cls ne8_10 iC10 tC10 sb8_10
      | j + 11, hj => exact absurd hj (by omega), kit_typ (by decide +kernel) xv8⟩
  have y8 := exm_sup eCO iCO tCO xo8
  have R9 : RaiC K XS 9 := ⟨⟨iC9, xg9, xk9, xe9, xd9, xa9, hn, ht, xm9⟩, fun g hg => by
      simp only [List.mem_cons, List.not_mem_nil, or_false] at hg
      rcases hg with rfl | rfl | rfl | rfl | rfl | rfl
      · exact xname9
      · exact xlow9
      · exact xhigh9
      · exact xoptions9
      · exact xoption9
      · exact xkind9, fun j hj => by
      match j, hj with
      | 0, _ => exact kit_cls ne9_0 iC0 tC0 sb9_0
      | 1, _ => exact kit_cls ne9_1 iC1 tC1 sb9_1
      | 2, _ => exact kit_cls ne9_2 iC2 tC2 sb9_2
      | 3, _ => exact kit_cls ne9_3 iC3 tC3 sb9_3
      | 4, _ => exact kit_cls ne9_4 iC4 tC4 sb9_4
      | 5, _ => exact kit_cls ne9_5 iC5 tC5 sb9_5
      | 6, _ => exact kit_cls ne9_6 iC6 tC6 sb9_6
      | 7, _ => exact kit_cls ne9_7 iC7 tC7 sb9_7
      | 8, _ => exact kit_cls ne9_8 iC8 tC8 sb9_8
      | 9, _ => exact kit_self
      | 10, _ => exact kit_cls ne9_10 iC10 tC10 sb9_10
      | j + 11, hj => exact absurd hj (by omega), kit_typ (by decide +kernel) xv9⟩
  have y9 := exm_sup eCO iCO tCO xo9
  have R10 : RaiC K XS 10 := ⟨⟨iC10, xg10, xk10, xe10, xd10, xa10, hn, ht, xm10⟩, fun g hg => by
      simp only [List.mem_cons, List.not_mem_nil, or_false] at hg
      rcases hg with rfl | rfl | rfl | rfl | rfl | rfl
      · exact xname10
      · exact xlow10
      · exact xhigh10
      · exact xoptions10
      · exact xoption10
      · exact xkind10, fun j hj => by
      match j, hj with
      | 0, _ => exact kit_cls ne10_0 iC0 tC0 sb10_0
      | 1, _ => exact kit_cls ne10_1 iC1 tC1 sb10_1
      | 2, _ => exact kit_cls ne10_2 iC2 tC2 sb10_2
      | 3, _ => exact kit_cls ne10_3 iC3 tC3 sb10_3
      | 4, _ => exact kit_cls ne10_4 iC4 tC4 sb10_4
      | 5, _ => exact kit_cls ne10_5 iC5 tC5 sb10_5
      | 6, _ => exact kit_cls ne10_6 iC6 tC6 sb10_6
      | 7, _ => exact kit_cls ne10_7 iC7 tC7 sb10_7
      | 8, _ => exact kit_cls ne10_8 iC8 tC8 sb10_8
      | 9, _ => exact kit_cls ne10_9 iC9 tC9 sb10_9
      | 10, _ => exact kit_self
      | j + 11, hj => exact absurd hj (by omega), kit_typ (by decide +kernel) xv10⟩
  have y10 := exm_sup eCO iCO tCO xo10
  have RR : ∀ i, i ≤ 10 → RaiC K XS i := fun i hi => by
      match i, hi with
      | 0, _ => exact R0
      | 1, _ => exact R1
      | 2, _ => exact R2
      | 3, _ => exact R3
      | 4, _ => exact R4
      | 5, _ => exact R5
      | 6, _ => exact R6
      | 7, _ => exact R7
      | 8, _ => exact R8
      | 9, _ => exact R9
      | 10, _ => exact R10
      | i + 11, hi => exact absurd hi (by omega)
  have YY : ∀ i, i ≤ 10 → PySem.W.exmOne K (.ref (XS.c i)) (.ref CO) = some true := fun i hi => by
      match i, hi with
      | 0, _ => exact y0
      | 1, _ => exact y1
      | 2, _ => exact y2
      | 3, _ => exact y3
      | 4, _ => exact y4
      | 5, _ => exact y5
      | 6, _ => exact y6
      | 7, _ => exact y7
      | 8, _ => exact y8
      | 9, _ => exact y9
      | 10, _ => exact y10
      | i + 11, hi => exact absurd hi (by omega)
  have gO := PySem.W.mg_of X G aCO
  refine ⟨PySem.W.fnOf "law" "law" (defArgs sLaw) (defBody sLaw) (defScope sLaw) .none kV64 dc64 pm64 an64 cd64 ct64, fun s v => .of_eq rfl, fun base _ _ => ?_⟩
  have e := hfa.symm.trans (PySem.W.mg_of X G a64)
  cases e
  have GIni : FnOk l.prog w K mg base CX0 1 _ _ _ _ := ok_ini T MI
  have GFof : FnOk l.prog w K mg base CX0 3 _ _ _ _ := ok_fof T D22 MI MK qtuple
  have GMul : FnOk l.prog w K mg base CX0 4 _ _ _ _ := ok_mul T MM MI MK D22 GFof qisinstance qint
  have GRmu : FnOk l.prog w K mg base CX0 5 _ _ _ _ := ok_rmu T TM MR MM GMul
  have GChk : FnOk l.prog w K mg base (L2N.CX l.prog w) 4 _ _ _ (spChk C3) := ok_chk D24 X3
  have GAdded : FnOk l.prog w K mg base CX0 1 _ _ _ _ := ok_added D25 qsorted qstr
  have GAdd : FnOk l.prog w K mg base (L2N.CX l.prog w) 5 _ _ _ (spAdd K C C3) := ok_add T MA D22 GFof D24 GChk D25 GAdded qisinstance qint
  have O : FoK l.prog w K mg base C C3 := ⟨T, TM, MI, MK, MA, GAdd, MM, MR, GRmu⟩
  have GIsNm : FnOk l.prog w K mg base CX0 1 _ _ _ _ := ok_isNm D18 N qlen qall
  have CN : FkN l.prog w K mg base 4 "check_name" sChn ["text"] (spChn XS.x0.C) := ⟨D19, ok_chn D19 N D18 GIsNm X0⟩
  have GMea : FnOk l.prog w K mg base (L2N.CX l.prog w) 5 f23 _ _ (spMea C C0 C6) := ok_mea F23 CN.D CN.G D22 GFof X6
  have MS_ : Msr l.prog w K mg base C XS.x0.C XS.x6.C := ⟨f23, _, PySem.W.mg_of X G a23, F23, ⟨fun s us ws _ h1 h2 => by
    match us, h1, ws, h2 with
    | [_], _, [_, _], _ => exact .of_eq rfl, fun r1 r2 => r1.append r2⟩, GMea⟩
  have TT : Fk l.prog w K mg base 2 _ _ _ spTake := ⟨D38, ok_take D38 D36 qint qabs qlen⟩
  have WO : Fk l.prog w K mg base 3 _ _ _ spWord := ⟨D39, ok_word D39 TT.D TT.G qrange⟩
  have NM : Fk l.prog w K mg base 4 "_law_names" sNames ["_law_source_here", "_law_many"] spNames := ⟨D40, ok_names D40 TT.D TT.G WO.D WO.G qrange qint qstr⟩
  have NU : Fk l.prog w K mg base 3 _ _ _ spNumber := ⟨D41, ok_number D41 TT.D TT.G qrange⟩
  have IN : Fk l.prog w K mg base 1 _ _ _ spIsN := ⟨D42, ok_isN D42 qisinstance qint qbool⟩
  have PK_A : Pk l.prog w K mg base 1 D "acts" (spActs C D) := ⟨pPA, fPA, _, PPA, bPA, ok_acts TD FPA qlist⟩
  have PK_S : Pk l.prog w K mg base 1 D "steps" (spSteps C D) := ⟨pPS, fPS, _, PPS, bPS, ok_steps TD FPS⟩
  have PK_R : Pk l.prog w K mg base 1 D "rules" (spRules C D) := ⟨pPR, fPR, _, PPR, bPR, ok_rules TD FPR⟩
  have CI : Me l.prog w K mg base 3 D "__contains__" "Card.__contains__" sCin ["self", "x"] (spCin C D) := ⟨MDI, ok_cin TD MDI PK_S⟩
  have NN : FkN l.prog w K mg base 5 "_check_new_name" sCnn ["card", "name"] (spCnn C D XS.c) := ⟨D31, ok_cnn D31 XS CN CI⟩
  have MOS : Mst K w mg := ⟨dMS, PySem.W.mg_of X G vMS, fun kd hk => by
    simp only [List.mem_cons, List.not_mem_nil, or_false] at hk
    rcases hk with rfl | rfl | rfl
    · exact ⟨_, _, _, lMS, yMS, vM1, tvM1, congrArg (fun z => Value.int z tvM1) (by decide +kernel : (6 : Int) = mostN "measure")⟩
    · exact ⟨_, _, _, lMS, yMS, vM2, tvM2, congrArg (fun z => Value.int z tvM2) (by decide +kernel : (3 : Int) = mostN "turn")⟩
    · exact ⟨_, _, _, lMS, yMS, vM3, tvM3, congrArg (fun z => Value.int z tvM3) (by decide +kernel : (6 : Int) = mostN "part")⟩⟩
  have CR : FkN l.prog w K mg base 3 "_check_room" sCro ["card", "kind"] (spCro C D XS.c) := ⟨D32, ok_cro D32 XS TD PK_S MOS qlen⟩
  have CME : FkN l.prog w K mg base 3 "_check_measures" sCme ["card", "form"] (spCme C D XS.c) := ⟨D33, ok_cme D33 XS TD PK_S T⟩
  have SW : Fk l.prog w K mg base 1 "sorted_when" sSwh ["options"] spSwh := ⟨D30, ok_swh D30 qsorted qstr qtuple⟩
  have CW : FkN l.prog w K mg base 3 "_checked_when" sCwh ["card", "when"] (spCwh K C D XS.c) := ⟨D34, ok_cwh D34 XS TD PK_S SW⟩
  have kb1 : KBn K MD1.fd ["self", "name", "low", "high"] 2 ["low", "high"] (fun us ws => us ++ ws) (fun vs zs => vs ++ zs) := ⟨fun s us ws _ h1 h2 => by
    match us, h1, ws, h2 with
    | [_, _], _, [_, _], _ => exact .of_eq rfl, fun r1 r2 => r1.append r2⟩
  have kb2 : KBn K MD2.fd ["self", "name", "options"] 2 ["options"] (fun us ws => us ++ ws) (fun vs zs => vs ++ zs) := ⟨fun s us ws _ h1 h2 => by
    match us, h1, ws, h2 with
    | [_, _], _, [_], _ => exact .of_eq rfl, fun r1 r2 => r1.append r2⟩
  have kb4 : KBn K MD4.fd ["self", "upper", "lower", "least", "when"] 3 ["least", "when"] (fun us ws => us ++ ws) (fun vs zs => vs ++ zs) := ⟨fun s us ws _ h1 h2 => by
    match us, h1, ws, h2 with
    | [_, _, _], _, [_, _], _ => exact .of_eq rfl, fun r1 r2 => r1.append r2⟩
  have kb40 : KBn K MD4.fd ["self", "upper", "lower", "least", "when"] 3 ["least"] (fun us ws => us ++ ws ++ [.ref dW]) (fun vs zs => vs ++ zs ++ [.ref dW]) := ⟨fun s us ws Xs h1 h2 => by
    match us, h1, ws, h2 with
    | [_, _, _], _, [_], _ =>
      refine BindsTo.of_looks fun M => KwChain.looks Xs (D := kD) (l := [("when", .ref dW)]) (fun q hq => ?_) ⟨_, _, _, _, _, _, rfl, rfl, rfl⟩
      simp only [List.mem_cons, List.not_mem_nil, or_false] at hq
      obtain rfl := hq
      exact vW, fun r1 r2 => (r1.append r2).append (.cons rfl .nil)⟩
  have CDM : CdM l.prog w K mg base C D XS := {
    M1 := MD1, G1 := ok_me1 XS TD MD1 NN CR MS_, kb1 := kb1
    M2 := MD2, G2 := ok_tu XS TD MD2 NN CR, kb2 := kb2
    M3 := MD3, G3 := ok_pa XS TD MD3 NN CR
    M4 := MD4, G4 := ok_ru XS TD PK_S PK_R CME CW T MD4 MI MK ⟨_, PySem.W.mg_of X G vFR⟩ ⟨_, PySem.W.mg_of X G vMR⟩ qisinstance qlen, kb4 := kb4
    dW := dW, hW := fun _ => .inr ⟨_, #[], _, lW, rfl, rfl, Nat.zero_le _, .nil⟩, g0 := _, kb40 := kb40
    M5 := MD5, G5 := ok_ba XS TD MD5
    M6 := MD6, G6 := ok_fo XS TD PK_S MD6 MS_ }
  have LN : Fk l.prog w K mg base 1 "_law_is_name" sLnm ["_law_word_here"] spLnm := ⟨D43, ok_lnm D43 qlen⟩
  have SF : Fk l.prog w K mg base 2 "_law_same_form" sSfo ["_law_actual", "_law_own"] (spSfo C) := ⟨D44, ok_sfo T D44 IN qisinstance qstr qtuple qlen qzip⟩
  have SR : Fk l.prog w K mg base 3 "_law_same_rule" sSru ["_law_actual", "_law_own"] (spSru C) := ⟨D45, ok_sru D45 IN SF qisinstance qtuple qlen⟩
  have SA : Fk l.prog w K mg base 4 "_law_same_act" sSac ["_law_actual", "_law_own"] (spSac C) := ⟨D46, ok_sac D46 IN SR qisinstance qtuple qlen⟩
  have SC : Fk l.prog w K mg base 5 "_law_same_card" sSca ["_law_card", "_law_model"] (spSca C D) := ⟨D47, ok_sca D47 TD PK_A PK_S PK_R SA SR T MI MK qisinstance qlist qlen qzip⟩
  have LE : Fk l.prog w K mg base 1 "_law_ends_of" sLeo ["_law_model", "_law_word_here"] spLeo := ⟨D48, ok_leo D48⟩
  have LO : Fk l.prog w K mg base 1 "_law_options_of" sLoo ["_law_model", "_law_word_here"] spLoo := ⟨D49, ok_loo D49⟩
  have SD : Fk l.prog w K mg base 2 "_law_step_due" sSdu ["_law_model", "_law_call_here"] spSdu := ⟨D50, ok_sdu D50 LN qlen⟩
  have RD : Fk l.prog w K mg base 2 "_law_rule_due" sRdu ["_law_model", "_law_call_here"] (spRdu C) := ⟨D51, ok_rdu D51 LE LO qlen⟩
  have CA : FkN l.prog w K mg base 7 "_law_call" sCal ["_law_card", "_law_call_here"] (spCal C D XS.c) := ⟨D53, ok_cal D53 TD CDM qlen⟩
  have PO : Fk l.prog w K mg base 1 "_law_pairs_in_order" sPio ["_law_pairs"] spPio := ⟨D54, ok_pio D54 qsorted qstr qtuple⟩
  have AC : Fk l.prog w K mg base 2 "_law_act" sAct ["_law_call_here"] (spAct C) := ⟨D55, ok_act D55 PO⟩
  have TO : FkG l.prog w K mg base 8 "_law_told" sTol ["_law_card", "_law_model", "_law_call_here"] (spTol C D) := ⟨D56, ok_tol D56 RD SD LE CA SA SF AC D52 RR gO YY qisinstance qValueError qlen qlist qrepr⟩
  have AN : Fk l.prog w K mg base 3 "_law_any" sAny ["_law_source_here", "_law_first", "_law_second"] spAny := ⟨D57, ok_any D57 TT qlen⟩
  have SCL : Fk l.prog w K mg base 4 "_law_step_call" sScl ["_law_source_here", "_law_label", "_law_names_here"] spScl := ⟨D58, ok_scl D58 TT NU qlen⟩
  have NE : Fk l.prog w K mg base 4 "_law_near_ends" sNen ["_law_source_here", "_law_ends"] spNen := ⟨D59, ok_nen D59 TT NU qabs⟩
  have FD : Fk l.prog w K mg base 7 "_law_form_draw" sFdr ["_law_source_here", "_law_model", "_law_names_here"] (spFdr C) := ⟨D60, ok_fdr D60 TT NU AN LE NE MS_ O qrange qsorted qstr qtuple⟩
  have RC : Fk l.prog w K mg base 8 "_law_rule_call" sRcl ["_law_source_here", "_law_model", "_law_names_here"] (spRcl C) := ⟨D61, ok_rcl D61 TT AN LO FD qrange qlen qint qmax qlist qtuple⟩
  have DC : Fk l.prog w K mg base 9 "_law_draw_call" sDrc ["_law_source_here", "_law_model", "_law_names_here", "_law_favour"] (spDrc C) := ⟨D62, ok_drc D62 TT AN RC SCL⟩
  have BE : Fk l.prog w K mg base 4 "_law_beginning" sBeg ["_law_source_here", "_law_names_here"] (spBeg C) := ⟨D63, ok_beg D63 TT NU qrange qlen qint⟩
  have SO : Fk l.prog w K mg base 1 _ _ _ (spSource K) := ⟨D37, ok_source D37 qlist⟩
  exact ok_law D64 TD CI TT AN MD0 MKC SO NM BE TO SC DC qrange qabs qisinstance qbool
end DO

open PySem PySem.W PyProof.Rows
set_option maxRecDepth 100000 in
set_option maxHeartbeats 0 in
theorem PySem.Challenge.cw_drawingoffice_k01_acts_of_a_card_holds : PySem.Challenge.rw_drawingoffice_k01_acts_of_a_card.Holds := by
  w_on; o_law; k_head; (case hw => w_witness2)
  k_fill
  refine DO.walkG (l := PySem.Challenge.rw_drawingoffice_k01_acts_of_a_card) rfl rfl (fun w h Y => PySem.W.kIn_of Y) ?F
  case F =>
    intro w mg fa h KX G hmg
    refine' DO.all_mk KX G hmg ?a18 ?l18 ?c18 ?k18 ?a19 ?l19 ?c19 ?k19 ?a22 ?l22 ?c22 ?k22 ?a24 ?l24 ?c24 ?k24 ?a25 ?l25 ?c25 ?k25 ?a30 ?l30 ?c30 ?k30 ?a31 ?l31 ?c31 ?k31 ?a32 ?l32 ?c32 ?k32 ?a33 ?l33 ?c33 ?k33 ?a34 ?l34 ?c34 ?k34 ?a36 ?l36 ?c36 ?k36 ?a37 ?l37 ?c37 ?k37 ?a38 ?l38 ?c38 ?k38 ?a39 ?l39 ?c39 ?k39 ?a40 ?l40 ?c40 ?k40 ?a41 ?l41 ?c41 ?k41 ?a42 ?l42 ?c42 ?k42 ?a43 ?l43 ?c43 ?k43 ?a44 ?l44 ?c44 ?k44 ?a45 ?l45 ?c45 ?k45 ?a46 ?l46 ?c46 ?k46 ?a47 ?l47 ?c47 ?k47 ?a48 ?l48 ?c48 ?k48 ?a49 ?l49 ?c49 ?k49 ?a50 ?l50 ?c50 ?k50 ?a51 ?l51 ?c51 ?k51 ?a52 ?l52 ?c52 ?k52 ?a53 ?l53 ?c53 ?k53 ?a54 ?l54 ?c54 ?k54 ?a55 ?l55 ?c55 ?k55 ?a56 ?l56 ?c56 ?k56 ?a57 ?l57 ?c57 ?k57 ?a58 ?l58 ?c58 ?k58 ?a59 ?l59 ?c59 ?k59 ?a60 ?l60 ?c60 ?k60 ?a61 ?l61 ?c61 ?k61 ?a62 ?l62 ?c62 ?k62 ?a63 ?l63 ?c63 ?k63 ?a64 ?l64 ?c64 ?k64 ?a23 ?l23 ?c23 ?k23 ?amI ?imI ?lmI ?cmI ?kmI ?amA ?imA ?lmA ?cmA ?kmA ?amM ?imM ?lmM ?cmM ?kmM ?amR ?imR ?lmR ?cmR ?kmR ?amD0 ?imD0 ?lmD0 ?cmD0 ?kmD0 ?amDI ?imDI ?lmDI ?cmDI ?kmDI ?amD1 ?imD1 ?lmD1 ?cmD1 ?kmD1 ?amD2 ?imD2 ?lmD2 ?cmD2 ?kmD2 ?amD3 ?imD3 ?lmD3 ?cmD3 ?kmD3 ?amD4 ?imD4 ?lmD4 ?cmD4 ?kmD4 ?vW ?lW ?amD5 ?imD5 ?lmD5 ?cmD5 ?kmD5 ?amD6 ?imD6 ?lmD6 ?cmD6 ?kmD6 ?aPA ?gPA ?tPA ?rPA ?lPA ?cPA ?kPA ?aPS ?gPS ?tPS ?rPS ?lPS ?cPS ?kPS ?aPR ?gPR ?tPR ?rPR ?lPR ?cPR ?kPR ?aC ?pg ?hd ?po ?sa ?mk ?kc ?nC ?nT ?sf ?ha ?hn ?ht ?hm ?ic ?ty ?nF ?sJ ?sI ?aD ?pgD ?hdD ?poD ?saD ?mkD ?kcD ?nAD ?im ?ir ?vFR ?vFS ?vLS ?vLN ?vMR ?vMS ?lMS ?yMS ?vM1 ?vM2 ?vM3 ?zint ?zabs ?zlen ?zlist ?zrange ?zsorted ?zstr ?zisinstance ?zbool ?zmax ?ztuple ?zzip ?zall ?zrepr ?zValueError ?aC0 ?iC0 ?tC0 ?aC1 ?iC1 ?tC1 ?aC2 ?iC2 ?tC2 ?aC3 ?iC3 ?tC3 ?aC4 ?iC4 ?tC4 ?aC5 ?iC5 ?tC5 ?aC6 ?iC6 ?tC6 ?aC7 ?iC7 ?tC7 ?aC8 ?iC8 ?tC8 ?aC9 ?iC9 ?tC9 ?aC10 ?iC10 ?tC10 ?aCO ?iCO ?tCO ?eCO ?xL0 ?xs0 ?xi0 ?xt0 ?xg0 ?xk0 ?xname0 ?xlow0 ?xhigh0 ?xoptions0 ?xoption0 ?xkind0 ?xK0 ?xe0 ?xd0 ?xa0 ?xm0 ?xv0 ?xo0 ?ne0_1 ?sb0_1 ?ne0_2 ?sb0_2 ?ne0_3 ?sb0_3 ?ne0_4 ?sb0_4 ?ne0_5 ?sb0_5 ?ne0_6 ?sb0_6 ?ne0_7 ?sb0_7 ?ne0_8 ?sb0_8 ?ne0_9 ?sb0_9 ?ne0_10 ?sb0_10 ?xL1 ?xs1 ?xi1 ?xt1 ?xg1 ?xk1 ?xname1 ?xlow1 ?xhigh1 ?xoptions1 ?xoption1 ?xkind1 ?xK1 ?xe1 ?xd1 ?xa1 ?xm1 ?xv1 ?xo1 ?ne1_0 ?sb1_0 ?ne1_2 ?sb1_2 ?ne1_3 ?sb1_3 ?ne1_4 ?sb1_4 ?ne1_5 ?sb1_5 ?ne1_6 ?sb1_6 ?ne1_7 ?sb1_7 ?ne1_8 ?sb1_8 ?ne1_9 ?sb1_9 ?ne1_10 ?sb1_10 ?xL2 ?xs2 ?xi2 ?xt2 ?xg2 ?xk2 ?xname2 ?xlow2 ?xhigh2 ?xoptions2 ?xoption2 ?xkind2 ?xK2 ?xe2 ?xd2 ?xa2 ?xm2 ?xv2 ?xo2 ?ne2_0 ?sb2_0 ?ne2_1 ?sb2_1 ?ne2_3 ?sb2_3 ?ne2_4 ?sb2_4 ?ne2_5 ?sb2_5 ?ne2_6 ?sb2_6 ?ne2_7 ?sb2_7 ?ne2_8 ?sb2_8 ?ne2_9 ?sb2_9 ?ne2_10 ?sb2_10 ?xL3 ?xs3 ?xi3 ?xt3 ?xg3 ?xk3 ?xname3 ?xlow3 ?xhigh3 ?xoptions3 ?xoption3 ?xkind3 ?xK3 ?xe3 ?xd3 ?xa3 ?xm3 ?xv3 ?xo3 ?ne3_0 ?sb3_0 ?ne3_1 ?sb3_1 ?ne3_2 ?sb3_2 ?ne3_4 ?sb3_4 ?ne3_5 ?sb3_5 ?ne3_6 ?sb3_6 ?ne3_7 ?sb3_7 ?ne3_8 ?sb3_8 ?ne3_9 ?sb3_9 ?ne3_10 ?sb3_10 ?xL4 ?xs4 ?xi4 ?xt4 ?xg4 ?xk4 ?xname4 ?xlow4 ?xhigh4 ?xoptions4 ?xoption4 ?xkind4 ?xK4 ?xe4 ?xd4 ?xa4 ?xm4 ?xv4 ?xo4 ?ne4_0 ?sb4_0 ?ne4_1 ?sb4_1 ?ne4_2 ?sb4_2 ?ne4_3 ?sb4_3 ?ne4_5 ?sb4_5 ?ne4_6 ?sb4_6 ?ne4_7 ?sb4_7 ?ne4_8 ?sb4_8 ?ne4_9 ?sb4_9 ?ne4_10 ?sb4_10 ?xL5 ?xs5 ?xi5 ?xt5 ?xg5 ?xk5 ?xname5 ?xlow5 ?xhigh5 ?xoptions5 ?xoption5 ?xkind5 ?xK5 ?xe5 ?xd5 ?xa5 ?xm5 ?xv5 ?xo5 ?ne5_0 ?sb5_0 ?ne5_1 ?sb5_1 ?ne5_2 ?sb5_2 ?ne5_3 ?sb5_3 ?ne5_4 ?sb5_4 ?ne5_6 ?sb5_6 ?ne5_7 ?sb5_7 ?ne5_8 ?sb5_8 ?ne5_9 ?sb5_9 ?ne5_10 ?sb5_10 ?xL6 ?xs6 ?xi6 ?xt6 ?xg6 ?xk6 ?xname6 ?xlow6 ?xhigh6 ?xoptions6 ?xoption6 ?xkind6 ?xK6 ?xe6 ?xd6 ?xa6 ?xm6 ?xv6 ?xo6 ?ne6_0 ?sb6_0 ?ne6_1 ?sb6_1 ?ne6_2 ?sb6_2 ?ne6_3 ?sb6_3 ?ne6_4 ?sb6_4 ?ne6_5 ?sb6_5 ?ne6_7 ?sb6_7 ?ne6_8 ?sb6_8 ?ne6_9 ?sb6_9 ?ne6_10 ?sb6_10 ?xL7 ?xs7 ?xi7 ?xt7 ?xg7 ?xk7 ?xname7 ?xlow7 ?xhigh7 ?xoptions7 ?xoption7 ?xkind7 ?xK7 ?xe7 ?xd7 ?xa7 ?xm7 ?xv7 ?xo7 ?ne7_0 ?sb7_0 ?ne7_1 ?sb7_1 ?ne7_2 ?sb7_2 ?ne7_3 ?sb7_3 ?ne7_4 ?sb7_4 ?ne7_5 ?sb7_5 ?ne7_6 ?sb7_6 ?ne7_8 ?sb7_8 ?ne7_9 ?sb7_9 ?ne7_10 ?sb7_10 ?xL8 ?xs8 ?xi8 ?xt8 ?xg8 ?xk8 ?xname8 ?xlow8 ?xhigh8 ?xoptions8 ?xoption8 ?xkind8 ?xK8 ?xe8 ?xd8 ?xa8 ?xm8 ?xv8 ?xo8 ?ne8_0 ?sb8_0 ?ne8_1 ?sb8_1 ?ne8_2 ?sb8_2 ?ne8_3 ?sb8_3 ?ne8_4 ?sb8_4 ?ne8_5 ?sb8_5 ?ne8_6 ?sb8_6 ?ne8_7 ?sb8_7 ?ne8_9 ?sb8_9 ?ne8_10 ?sb8_10 ?xL9 ?xs9 ?xi9 ?xt9 ?xg9 ?xk9 ?xname9 ?xlow9 ?xhigh9 ?xoptions9 ?xoption9 ?xkind9 ?xK9 ?xe9 ?xd9 ?xa9 ?xm9 ?xv9 ?xo9 ?ne9_0 ?sb9_0 ?ne9_1 ?sb9_1 ?ne9_2 ?sb9_2 ?ne9_3 ?sb9_3 ?ne9_4 ?sb9_4 ?ne9_5 ?sb9_5 ?ne9_6 ?sb9_6 ?ne9_7 ?sb9_7 ?ne9_8 ?sb9_8 ?ne9_10 ?sb9_10 ?xN10 ?xg10 ?xk10 ?xname10 ?xlow10 ?xhigh10 ?xoptions10 ?xoption10 ?xkind10 ?xK10 ?xe10 ?xd10 ?xa10 ?xm10 ?xv10 ?xo10 ?ne10_0 ?sb10_0 ?ne10_1 ?sb10_1 ?ne10_2 ?sb10_2 ?ne10_3 ?sb10_3 ?ne10_4 ?sb10_4 ?ne10_5 ?sb10_5 ?ne10_6 ?sb10_6 ?ne10_7 ?sb10_7 ?ne10_8 ?sb10_8 ?ne10_9 ?sb10_9 ?lx0 ?cx0 ?kx0 ?lx1 ?cx1 ?kx1 ?lx2 ?cx2 ?kx2 ?lx3 ?cx3 ?kx3 ?lx4 ?cx4 ?kx4 ?lx5 ?cx5 ?kx5 ?lx6 ?cx6 ?kx6 ?lx7 ?cx7 ?kx7 ?lx8 ?cx8 ?kx8 ?lx9 ?cx9 ?kx9
    (case aC => k_is)
    (case aD => k_is)
    (case aC0 => k_is)
    (case aC1 => k_is)
    (case aC2 => k_is)
    (case aC3 => k_is)
    (case aC4 => k_is)
    (case aC5 => k_is)
    (case aC6 => k_is)
    (case aC7 => k_is)
    (case aC8 => k_is)
    (case aC9 => k_is)
    (case aC10 => k_is)
    (case aCO => k_is)
    (case xi0 => k_is)
    (case xi1 => k_is)
    (case xi2 => k_is)
    (case xi3 => k_is)
    (case xi4 => k_is)
    (case xi5 => k_is)
    (case xi6 => k_is)
    (case xi7 => k_is)
    (case xi8 => k_is)
    (case xi9 => k_is)
    (case vMS => k_is)
    (case lMS => k_is)
    (case a18 => k_is)
    (case l18 => k_is)
    (case c18 => k_is)
    (case k18 => k_is)
    (case a19 => k_is)
    (case l19 => k_is)
    (case c19 => k_is)
    (case k19 => k_is)
    (case a22 => k_is)
    (case l22 => k_is)
    (case c22 => k_is)
    (case k22 => k_is)
    (case a24 => k_is)
    (case l24 => k_is)
    (case c24 => k_is)
    (case k24 => k_is)
    (case a25 => k_is)
    (case l25 => k_is)
    (case c25 => k_is)
    (case k25 => k_is)
    (case a30 => k_is)
    (case l30 => k_is)
    (case c30 => k_is)
    (case k30 => k_is)
    (case a31 => k_is)
    (case l31 => k_is)
    (case c31 => k_is)
    (case k31 => k_is)
    (case a32 => k_is)
    (case l32 => k_is)
    (case c32 => k_is)
    (case k32 => k_is)
    (case a33 => k_is)
    (case l33 => k_is)
    (case c33 => k_is)
    (case k33 => k_is)
    (case a34 => k_is)
    (case l34 => k_is)
    (case c34 => k_is)
    (case k34 => k_is)
    (case a36 => k_is)
    (case l36 => k_is)
    (case c36 => k_is)
    (case k36 => k_is)
    (case a37 => k_is)
    (case l37 => k_is)
    (case c37 => k_is)
    (case k37 => k_is)
    (case a38 => k_is)
    (case l38 => k_is)
    (case c38 => k_is)
    (case k38 => k_is)
    (case a39 => k_is)
    (case l39 => k_is)
    (case c39 => k_is)
    (case k39 => k_is)
    (case a40 => k_is)
    (case l40 => k_is)
    (case c40 => k_is)
    (case k40 => k_is)
    (case a41 => k_is)
    (case l41 => k_is)
    (case c41 => k_is)
    (case k41 => k_is)
    (case a42 => k_is)
    (case l42 => k_is)
    (case c42 => k_is)
    (case k42 => k_is)
    (case a43 => k_is)
    (case l43 => k_is)
    (case c43 => k_is)
    (case k43 => k_is)
    (case a44 => k_is)
    (case l44 => k_is)
    (case c44 => k_is)
    (case k44 => k_is)
    (case a45 => k_is)
    (case l45 => k_is)
    (case c45 => k_is)
    (case k45 => k_is)
    (case a46 => k_is)
    (case l46 => k_is)
    (case c46 => k_is)
    (case k46 => k_is)
    (case a47 => k_is)
    (case l47 => k_is)
    (case c47 => k_is)
    (case k47 => k_is)
    (case a48 => k_is)
    (case l48 => k_is)
    (case c48 => k_is)
    (case k48 => k_is)
    (case a49 => k_is)
    (case l49 => k_is)
    (case c49 => k_is)
    (case k49 => k_is)
    (case a50 => k_is)
    (case l50 => k_is)
    (case c50 => k_is)
    (case k50 => k_is)
    (case a51 => k_is)
    (case l51 => k_is)
    (case c51 => k_is)
    (case k51 => k_is)
    (case a52 => k_is)
    (case l52 => k_is)
    (case c52 => k_is)
    (case k52 => k_is)
    (case a53 => k_is)
    (case l53 => k_is)
    (case c53 => k_is)
    (case k53 => k_is)
    (case a54 => k_is)
    (case l54 => k_is)
    (case c54 => k_is)
    (case k54 => k_is)
    (case a55 => k_is)
    (case l55 => k_is)
    (case c55 => k_is)
    (case k55 => k_is)
    (case a56 => k_is)
    (case l56 => k_is)
    (case c56 => k_is)
    (case k56 => k_is)
    (case a57 => k_is)
    (case l57 => k_is)
    (case c57 => k_is)
    (case k57 => k_is)
    (case a58 => k_is)
    (case l58 => k_is)
    (case c58 => k_is)
    (case k58 => k_is)
    (case a59 => k_is)
    (case l59 => k_is)
    (case c59 => k_is)
    (case k59 => k_is)
    (case a60 => k_is)
    (case l60 => k_is)
    (case c60 => k_is)
    (case k60 => k_is)
    (case a61 => k_is)
    (case l61 => k_is)
    (case c61 => k_is)
    (case k61 => k_is)
    (case a62 => k_is)
    (case l62 => k_is)
    (case c62 => k_is)
    (case k62 => k_is)
    (case a63 => k_is)
    (case l63 => k_is)
    (case c63 => k_is)
    (case k63 => k_is)
    (case a64 => k_is)
    (case l64 => k_is)
    (case c64 => k_is)
    (case k64 => k_is)
    (case a23 => k_is)
    (case l23 => k_is)
    (case c23 => k_is)
    (case k23 => k_is)
    (case amI => k_is)
    (case imI => k_is)
    (case lmI => k_is)
    (case cmI => k_is)
    (case kmI => k_is)
    (case amA => k_is)
    (case imA => k_is)
    (case lmA => k_is)
    (case cmA => k_is)
    (case kmA => k_is)
    (case amM => k_is)
    (case imM => k_is)
    (case lmM => k_is)
    (case cmM => k_is)
    (case kmM => k_is)
    (case amR => k_is)
    (case imR => k_is)
    (case lmR => k_is)
    (case cmR => k_is)
    (case kmR => k_is)
    (case amD0 => k_is)
    (case imD0 => k_is)
    (case lmD0 => k_is)
    (case cmD0 => k_is)
    (case kmD0 => k_is)
    (case amDI => k_is)
    (case imDI => k_is)
    (case lmDI => k_is)
    (case cmDI => k_is)
    (case kmDI => k_is)
    (case amD1 => k_is)
    (case imD1 => k_is)
    (case lmD1 => k_is)
    (case cmD1 => k_is)
    (case kmD1 => k_is)
    (case amD2 => k_is)
    (case imD2 => k_is)
    (case lmD2 => k_is)
    (case cmD2 => k_is)
    (case kmD2 => k_is)
    (case amD3 => k_is)
    (case imD3 => k_is)
    (case lmD3 => k_is)
    (case cmD3 => k_is)
    (case kmD3 => k_is)
    (case amD4 => k_is)
    (case imD4 => k_is)
    (case lmD4 => k_is)
    (case vW => k_is)
    (case lW => k_is)
    (case cmD4 => k_is)
    (case kmD4 => k_is)
    (case amD5 => k_is)
    (case imD5 => k_is)
    (case lmD5 => k_is)
    (case cmD5 => k_is)
    (case kmD5 => k_is)
    (case amD6 => k_is)
    (case imD6 => k_is)
    (case lmD6 => k_is)
    (case cmD6 => k_is)
    (case kmD6 => k_is)
    (case aPA => k_is)
    (case gPA => k_is)
    (case tPA => k_is)
    (case rPA => k_is)
    (case lPA => k_is)
    (case cPA => k_is)
    (case kPA => k_is)
    (case aPS => k_is)
    (case gPS => k_is)
    (case tPS => k_is)
    (case rPS => k_is)
    (case lPS => k_is)
    (case cPS => k_is)
    (case kPS => k_is)
    (case aPR => k_is)
    (case gPR => k_is)
    (case tPR => k_is)
    (case rPR => k_is)
    (case lPR => k_is)
    (case cPR => k_is)
    (case kPR => k_is)
    (case pg => k_is)
    (case hd => k_is)
    (case po => k_is)
    (case sa => k_is)
    (case mk => k_is)
    (case kc => k_is)
    (case nC => k_is)
    (case nT => k_is)
    (case sf => k_is)
    (case ha => k_is)
    (case hn => k_is)
    (case ht => k_is)
    (case hm => k_is)
    (case ic => k_is)
    (case ty => k_is)
    (case nF => k_is)
    (case sJ => k_is)
    (case sI => k_is)
    (case pgD => k_is)
    (case hdD => k_is)
    (case poD => k_is)
    (case saD => k_is)
    (case mkD => k_is)
    (case kcD => k_is)
    (case nAD => k_is)
    (case im => k_is)
    (case ir => k_is)
    (case vFR => k_is)
    (case vFS => k_is)
    (case vLS => k_is)
    (case vLN => k_is)
    (case vMR => k_is)
    (case yMS => k_keys)
    (case vM1 => k_is)
    (case vM2 => k_is)
    (case vM3 => k_is)
    (case zint => k_is)
    (case zabs => k_is)
    (case zlen => k_is)
    (case zlist => k_is)
    (case zrange => k_is)
    (case zsorted => k_is)
    (case zstr => k_is)
    (case zisinstance => k_is)
    (case zbool => k_is)
    (case zmax => k_is)
    (case ztuple => k_is)
    (case zzip => k_is)
    (case zall => k_is)
    (case zrepr => k_is)
    (case zValueError => k_is)
    (case iC0 => k_is)
    (case tC0 => k_is)
    (case iC1 => k_is)
    (case tC1 => k_is)
    (case iC2 => k_is)
    (case tC2 => k_is)
    (case iC3 => k_is)
    (case tC3 => k_is)
    (case iC4 => k_is)
    (case tC4 => k_is)
    (case iC5 => k_is)
    (case tC5 => k_is)
    (case iC6 => k_is)
    (case tC6 => k_is)
    (case iC7 => k_is)
    (case tC7 => k_is)
    (case iC8 => k_is)
    (case tC8 => k_is)
    (case iC9 => k_is)
    (case tC9 => k_is)
    (case iC10 => k_is)
    (case tC10 => k_is)
    (case iCO => k_is)
    (case tCO => k_is)
    (case eCO => k_is)
    (case xL0 => k_is)
    (case xs0 => k_is)
    (case xt0 => k_is)
    (case xg0 => k_is)
    (case xk0 => k_is)
    (case xname0 => k_is)
    (case xlow0 => k_is)
    (case xhigh0 => k_is)
    (case xoptions0 => k_is)
    (case xoption0 => k_is)
    (case xkind0 => k_is)
    (case xK0 => k_is)
    (case xe0 => k_is)
    (case xd0 => k_is)
    (case xa0 => k_is)
    (case xm0 => k_is)
    (case xv0 => k_is)
    (case xo0 => k_is)
    (case ne0_1 => first | rfl | decide)
    (case sb0_1 => k_is)
    (case ne0_2 => first | rfl | decide)
    (case sb0_2 => k_is)
    (case ne0_3 => first | rfl | decide)
    (case sb0_3 => k_is)
    (case ne0_4 => first | rfl | decide)
    (case sb0_4 => k_is)
    (case ne0_5 => first | rfl | decide)
    (case sb0_5 => k_is)
    (case ne0_6 => first | rfl | decide)
    (case sb0_6 => k_is)
    (case ne0_7 => first | rfl | decide)
    (case sb0_7 => k_is)
    (case ne0_8 => first | rfl | decide)
    (case sb0_8 => k_is)
    (case ne0_9 => first | rfl | decide)
    (case sb0_9 => k_is)
    (case ne0_10 => first | rfl | decide)
    (case sb0_10 => k_is)
    (case xL1 => k_is)
    (case xs1 => k_is)
    (case xt1 => k_is)
    (case xg1 => k_is)
    (case xk1 => k_is)
    (case xname1 => k_is)
    (case xlow1 => k_is)
    (case xhigh1 => k_is)
    (case xoptions1 => k_is)
    (case xoption1 => k_is)
    (case xkind1 => k_is)
    (case xK1 => k_is)
    (case xe1 => k_is)
    (case xd1 => k_is)
    (case xa1 => k_is)
    (case xm1 => k_is)
    (case xv1 => k_is)
    (case xo1 => k_is)
    (case ne1_0 => first | rfl | decide)
    (case sb1_0 => k_is)
    (case ne1_2 => first | rfl | decide)
    (case sb1_2 => k_is)
    (case ne1_3 => first | rfl | decide)
    (case sb1_3 => k_is)
    (case ne1_4 => first | rfl | decide)
    (case sb1_4 => k_is)
    (case ne1_5 => first | rfl | decide)
    (case sb1_5 => k_is)
    (case ne1_6 => first | rfl | decide)
    (case sb1_6 => k_is)
    (case ne1_7 => first | rfl | decide)
    (case sb1_7 => k_is)
    (case ne1_8 => first | rfl | decide)
    (case sb1_8 => k_is)
    (case ne1_9 => first | rfl | decide)
    (case sb1_9 => k_is)
    (case ne1_10 => first | rfl | decide)
    (case sb1_10 => k_is)
    (case xL2 => k_is)
    (case xs2 => k_is)
    (case xt2 => k_is)
    (case xg2 => k_is)
    (case xk2 => k_is)
    (case xname2 => k_is)
    (case xlow2 => k_is)
    (case xhigh2 => k_is)
    (case xoptions2 => k_is)
    (case xoption2 => k_is)
    (case xkind2 => k_is)
    (case xK2 => k_is)
    (case xe2 => k_is)
    (case xd2 => k_is)
    (case xa2 => k_is)
    (case xm2 => k_is)
    (case xv2 => k_is)
    (case xo2 => k_is)
    (case ne2_0 => first | rfl | decide)
    (case sb2_0 => k_is)
    (case ne2_1 => first | rfl | decide)
    (case sb2_1 => k_is)
    (case ne2_3 => first | rfl | decide)
    (case sb2_3 => k_is)
    (case ne2_4 => first | rfl | decide)
    (case sb2_4 => k_is)
    (case ne2_5 => first | rfl | decide)
    (case sb2_5 => k_is)
    (case ne2_6 => first | rfl | decide)
    (case sb2_6 => k_is)
    (case ne2_7 => first | rfl | decide)
    (case sb2_7 => k_is)
    (case ne2_8 => first | rfl | decide)
    (case sb2_8 => k_is)
    (case ne2_9 => first | rfl | decide)
    (case sb2_9 => k_is)
    (case ne2_10 => first | rfl | decide)
    (case sb2_10 => k_is)
    (case xL3 => k_is)
    (case xs3 => k_is)
    (case xt3 => k_is)
    (case xg3 => k_is)
    (case xk3 => k_is)
    (case xname3 => k_is)
    (case xlow3 => k_is)
    (case xhigh3 => k_is)
    (case xoptions3 => k_is)
    (case xoption3 => k_is)
    (case xkind3 => k_is)
    (case xK3 => k_is)
    (case xe3 => k_is)
    (case xd3 => k_is)
    (case xa3 => k_is)
    (case xm3 => k_is)
    (case xv3 => k_is)
    (case xo3 => k_is)
    (case ne3_0 => first | rfl | decide)
    (case sb3_0 => k_is)
    (case ne3_1 => first | rfl | decide)
    (case sb3_1 => k_is)
    (case ne3_2 => first | rfl | decide)
    (case sb3_2 => k_is)
    (case ne3_4 => first | rfl | decide)
    (case sb3_4 => k_is)
    (case ne3_5 => first | rfl | decide)
    (case sb3_5 => k_is)
    (case ne3_6 => first | rfl | decide)
    (case sb3_6 => k_is)
    (case ne3_7 => first | rfl | decide)
    (case sb3_7 => k_is)
    (case ne3_8 => first | rfl | decide)
    (case sb3_8 => k_is)
    (case ne3_9 => first | rfl | decide)
    (case sb3_9 => k_is)
    (case ne3_10 => first | rfl | decide)
    (case sb3_10 => k_is)
    (case xL4 => k_is)
    (case xs4 => k_is)
    (case xt4 => k_is)
    (case xg4 => k_is)
    (case xk4 => k_is)
    (case xname4 => k_is)
    (case xlow4 => k_is)
    (case xhigh4 => k_is)
    (case xoptions4 => k_is)
    (case xoption4 => k_is)
    (case xkind4 => k_is)
    (case xK4 => k_is)
    (case xe4 => k_is)
    (case xd4 => k_is)
    (case xa4 => k_is)
    (case xm4 => k_is)
    (case xv4 => k_is)
    (case xo4 => k_is)
    (case ne4_0 => first | rfl | decide)
    (case sb4_0 => k_is)
    (case ne4_1 => first | rfl | decide)
    (case sb4_1 => k_is)
    (case ne4_2 => first | rfl | decide)
    (case sb4_2 => k_is)
    (case ne4_3 => first | rfl | decide)
    (case sb4_3 => k_is)
    (case ne4_5 => first | rfl | decide)
    (case sb4_5 => k_is)
    (case ne4_6 => first | rfl | decide)
    (case sb4_6 => k_is)
    (case ne4_7 => first | rfl | decide)
    (case sb4_7 => k_is)
    (case ne4_8 => first | rfl | decide)
    (case sb4_8 => k_is)
    (case ne4_9 => first | rfl | decide)
    (case sb4_9 => k_is)
    (case ne4_10 => first | rfl | decide)
    (case sb4_10 => k_is)
    (case xL5 => k_is)
    (case xs5 => k_is)
    (case xt5 => k_is)
    (case xg5 => k_is)
    (case xk5 => k_is)
    (case xname5 => k_is)
    (case xlow5 => k_is)
    (case xhigh5 => k_is)
    (case xoptions5 => k_is)
    (case xoption5 => k_is)
    (case xkind5 => k_is)
    (case xK5 => k_is)
    (case xe5 => k_is)
    (case xd5 => k_is)
    (case xa5 => k_is)
    (case xm5 => k_is)
    (case xv5 => k_is)
    (case xo5 => k_is)
    (case ne5_0 => first | rfl | decide)
    (case sb5_0 => k_is)
    (case ne5_1 => first | rfl | decide)
    (case sb5_1 => k_is)
    (case ne5_2 => first | rfl | decide)
    (case sb5_2 => k_is)
    (case ne5_3 => first | rfl | decide)
    (case sb5_3 => k_is)
    (case ne5_4 => first | rfl | decide)
    (case sb5_4 => k_is)
    (case ne5_6 => first | rfl | decide)
    (case sb5_6 => k_is)
    (case ne5_7 => first | rfl | decide)
    (case sb5_7 => k_is)
    (case ne5_8 => first | rfl | decide)
    (case sb5_8 => k_is)
    (case ne5_9 => first | rfl | decide)
    (case sb5_9 => k_is)
    (case ne5_10 => first | rfl | decide)
    (case sb5_10 => k_is)
    (case xL6 => k_is)
    (case xs6 => k_is)
    (case xt6 => k_is)
    (case xg6 => k_is)
    (case xk6 => k_is)
    (case xname6 => k_is)
    (case xlow6 => k_is)
    (case xhigh6 => k_is)
    (case xoptions6 => k_is)
    (case xoption6 => k_is)
    (case xkind6 => k_is)
    (case xK6 => k_is)
    (case xe6 => k_is)
    (case xd6 => k_is)
    (case xa6 => k_is)
    (case xm6 => k_is)
    (case xv6 => k_is)
    (case xo6 => k_is)
    (case ne6_0 => first | rfl | decide)
    (case sb6_0 => k_is)
    (case ne6_1 => first | rfl | decide)
    (case sb6_1 => k_is)
    (case ne6_2 => first | rfl | decide)
    (case sb6_2 => k_is)
    (case ne6_3 => first | rfl | decide)
    (case sb6_3 => k_is)
    (case ne6_4 => first | rfl | decide)
    (case sb6_4 => k_is)
    (case ne6_5 => first | rfl | decide)
    (case sb6_5 => k_is)
    (case ne6_7 => first | rfl | decide)
    (case sb6_7 => k_is)
    (case ne6_8 => first | rfl | decide)
    (case sb6_8 => k_is)
    (case ne6_9 => first | rfl | decide)
    (case sb6_9 => k_is)
    (case ne6_10 => first | rfl | decide)
    (case sb6_10 => k_is)
    (case xL7 => k_is)
    (case xs7 => k_is)
    (case xt7 => k_is)
    (case xg7 => k_is)
    (case xk7 => k_is)
    (case xname7 => k_is)
    (case xlow7 => k_is)
    (case xhigh7 => k_is)
    (case xoptions7 => k_is)
    (case xoption7 => k_is)
    (case xkind7 => k_is)
    (case xK7 => k_is)
    (case xe7 => k_is)
    (case xd7 => k_is)
    (case xa7 => k_is)
    (case xm7 => k_is)
    (case xv7 => k_is)
    (case xo7 => k_is)
    (case ne7_0 => first | rfl | decide)
    (case sb7_0 => k_is)
    (case ne7_1 => first | rfl | decide)
    (case sb7_1 => k_is)
    (case ne7_2 => first | rfl | decide)
    (case sb7_2 => k_is)
    (case ne7_3 => first | rfl | decide)
    (case sb7_3 => k_is)
    (case ne7_4 => first | rfl | decide)
    (case sb7_4 => k_is)
    (case ne7_5 => first | rfl | decide)
    (case sb7_5 => k_is)
    (case ne7_6 => first | rfl | decide)
    (case sb7_6 => k_is)
    (case ne7_8 => first | rfl | decide)
    (case sb7_8 => k_is)
    (case ne7_9 => first | rfl | decide)
    (case sb7_9 => k_is)
    (case ne7_10 => first | rfl | decide)
    (case sb7_10 => k_is)
    (case xL8 => k_is)
    (case xs8 => k_is)
    (case xt8 => k_is)
    (case xg8 => k_is)
    (case xk8 => k_is)
    (case xname8 => k_is)
    (case xlow8 => k_is)
    (case xhigh8 => k_is)
    (case xoptions8 => k_is)
    (case xoption8 => k_is)
    (case xkind8 => k_is)
    (case xK8 => k_is)
    (case xe8 => k_is)
    (case xd8 => k_is)
    (case xa8 => k_is)
    (case xm8 => k_is)
    (case xv8 => k_is)
    (case xo8 => k_is)
    (case ne8_0 => first | rfl | decide)
    (case sb8_0 => k_is)
    (case ne8_1 => first | rfl | decide)
    (case sb8_1 => k_is)
    (case ne8_2 => first | rfl | decide)
    (case sb8_2 => k_is)
    (case ne8_3 => first | rfl | decide)
    (case sb8_3 => k_is)
    (case ne8_4 => first | rfl | decide)
    (case sb8_4 => k_is)
    (case ne8_5 => first | rfl | decide)
    (case sb8_5 => k_is)
    (case ne8_6 => first | rfl | decide)
    (case sb8_6 => k_is)
    (case ne8_7 => first | rfl | decide)
    (case sb8_7 => k_is)
    (case ne8_9 => first | rfl | decide)
    (case sb8_9 => k_is)
    (case ne8_10 => first | rfl | decide)
    (case sb8_10 => k_is)
    (case xL9 => k_is)
    (case xs9 => k_is)
    (case xt9 => k_is)
    (case xg9 => k_is)
    (case xk9 => k_is)
    (case xname9 => k_is)
    (case xlow9 => k_is)
    (case xhigh9 => k_is)
    (case xoptions9 => k_is)
    (case xoption9 => k_is)
    (case xkind9 => k_is)
    (case xK9 => k_is)
    (case xe9 => k_is)
    (case xd9 => k_is)
    (case xa9 => k_is)
    (case xm9 => k_is)
    (case xv9 => k_is)
    (case xo9 => k_is)
    (case ne9_0 => first | rfl | decide)
    (case sb9_0 => k_is)
    (case ne9_1 => first | rfl | decide)
    (case sb9_1 => k_is)
    (case ne9_2 => first | rfl | decide)
    (case sb9_2 => k_is)
    (case ne9_3 => first | rfl | decide)
    (case sb9_3 => k_is)
    (case ne9_4 => first | rfl | decide)
    (case sb9_4 => k_is)
    (case ne9_5 => first | rfl | decide)
    (case sb9_5 => k_is)
    (case ne9_6 => first | rfl | decide)
    (case sb9_6 => k_is)
    (case ne9_7 => first | rfl | decide)
    (case sb9_7 => k_is)
    (case ne9_8 => first | rfl | decide)
    (case sb9_8 => k_is)
    (case ne9_10 => first | rfl | decide)
    (case sb9_10 => k_is)
    (case xN10 => k_exc)
    (case xg10 => k_is)
    (case xk10 => k_is)
    (case xname10 => k_is)
    (case xlow10 => k_is)
    (case xhigh10 => k_is)
    (case xoptions10 => k_is)
    (case xoption10 => k_is)
    (case xkind10 => k_is)
    (case xK10 => k_is)
    (case xe10 => k_is)
    (case xd10 => k_is)
    (case xa10 => k_is)
    (case xm10 => k_is)
    (case xv10 => k_is)
    (case xo10 => k_is)
    (case ne10_0 => first | rfl | decide)
    (case sb10_0 => k_is)
    (case ne10_1 => first | rfl | decide)
    (case sb10_1 => k_is)
    (case ne10_2 => first | rfl | decide)
    (case sb10_2 => k_is)
    (case ne10_3 => first | rfl | decide)
    (case sb10_3 => k_is)
    (case ne10_4 => first | rfl | decide)
    (case sb10_4 => k_is)
    (case ne10_5 => first | rfl | decide)
    (case sb10_5 => k_is)
    (case ne10_6 => first | rfl | decide)
    (case sb10_6 => k_is)
    (case ne10_7 => first | rfl | decide)
    (case sb10_7 => k_is)
    (case ne10_8 => first | rfl | decide)
    (case sb10_8 => k_is)
    (case ne10_9 => first | rfl | decide)
    (case sb10_9 => k_is)
    (case lx0 => k_is)
    (case cx0 => k_is)
    (case kx0 => k_is)
    (case lx1 => k_is)
    (case cx1 => k_is)
    (case kx1 => k_is)
    (case lx2 => k_is)
    (case cx2 => k_is)
    (case kx2 => k_is)
    (case lx3 => k_is)
    (case cx3 => k_is)
    (case kx3 => k_is)
    (case lx4 => k_is)
    (case cx4 => k_is)
    (case kx4 => k_is)
    (case lx5 => k_is)
    (case cx5 => k_is)
    (case kx5 => k_is)
    (case lx6 => k_is)
    (case cx6 => k_is)
    (case kx6 => k_is)
    (case lx7 => k_is)
    (case cx7 => k_is)
    (case kx7 => k_is)
    (case lx8 => k_is)
    (case cx8 => k_is)
    (case kx8 => k_is)
    (case lx9 => k_is)
    (case cx9 => k_is)
    (case kx9 => k_is)
