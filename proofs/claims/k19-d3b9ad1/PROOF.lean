import PyProof.Rows.All
import Wide.All
import OpenK.AllK
import Wide.FinOn
import HandS.ForMost
import HandS.Wide
import PySem.Challenge.RW_drawingoffice_k19_catalogs
import HandS.Codes
import HandS.Walk
import HandS.Conv
import HandS.Style
import HandS.IsInst
import HandS.DictSub
import KE.SortData
import HandS.SlotsOwn
import HandS.IterVal
import KE.KOpsOwn
import HandS.OwnEq
import HandS.IterNext
import KE.KOwnIter
import HandS.OwnIter
import HandS.DictComp
import HandS.RaiseMore
import HandS.More
import HandS.Property
import HandS.WordsDict
set_option Elab.async false
set_option linter.all false
set_option maxRecDepth 100000
set_option maxHeartbeats 4000000
namespace DO
open PySem PySem.Spec PyProof.Rows L2
/-! ### the text by places -/
def top (i : Nat) : Stmt := PySem.Challenge.pw_drawingoffice_k19_catalogs.main.body.getD i (.Pass ⟨0, 0, 0, 0⟩)
/-- a def of the text as the top leaves it: where it stands, under which name, how its arguments bind -/
structure Df (K : PySem.W.Frag) (mg : Str → Option Value) (x : Str) (st : Stmt) (ps : List Str) where
  f : Addr
  fd : FuncData
  mgf : mg x = some (.ref f)
  fn : Fun K x x st f fd
  bd : Binds K fd ps []
/-! ### heaps -/
/-- all that was tracked is as it was, but what stands at s -/
def Kp (s : Addr) (H H' : Hp) : Prop := ∀ b o, H b = some o → b ≠ s → H' b = some o
theorem Kp.refl {s : Addr} {H : Hp} : Kp s H H := fun _ _ h _ => h
theorem Kp.trans {s : Addr} {H H1 H2 : Hp} (a : Kp s H H1) (b : Kp s H1 H2) : Kp s H H2 := fun c o h n => b c o (a c o h n) n
theorem Kp.same {s : Addr} {H H' : Hp} (a : Same H H') : Kp s H H' := fun c o h _ => a c o h
theorem Kp.upd {s : Addr} {H : Hp} {o : HO} : Kp s H (L2.upd H s o) := fun c u h n => by rw [upd_ne n]; exact h
theorem same_upd {H : Hp} {p : Addr} {o : HO} (h : H p = none) : Same H (upd H p o) := fun b x e => by
  rw [upd_ne (ne_of_none e h)]
  exact e
/-- the drawn numbers: a number, a place, the cells -/
def Src (H : Hp) (s c : Addr) : Prop := ∃ (a0 a1 : Int) (ns : List Int), H s = some (.lst [.int a0, .int a1, .ref c]) ∧ 0 ≤ a1 ∧ H c = some (.lst (ns.map V.int)) ∧ ns.length ≤ 63
theorem Src.ne {H : Hp} {s c : Addr} {a0 a1 : Int} {ns : List Int} (h : H s = some (.lst [.int a0, .int a1, .ref c])) (h' : H c = some (.lst (ns.map V.int))) : c ≠ s := by
  intro e
  subst e
  rw [h] at h'
  have h2 := Option.some.inj h'
  injection h2 with h3
  match ns, h3 with
  | [_, _, _], h3 => simp at h3
  | [], h3 => cases h3
  | [_], h3 => cases h3
  | [_, _], h3 => cases h3
  | _ :: _ :: _ :: _ :: _, h3 => cases h3
/-! ### rules that hand on what is known alone -/
section
variable {X : Cx}
theorem op_modL : OpR X (binaryOp .Mod) (fun x y H Q => ∃ i j : Int, x = .int i ∧ y = .int j ∧ 0 < j ∧ ∀ r : Int, 0 ≤ r → r < j → Q (.int r) H) := by
  intro pins s σ H x y v u Q I rx ry h
  obtain ⟨i, j, hx, hy, hj, k⟩ := h
  exact op_mod pins s σ H x y v u Q I rx ry ⟨i, j, hx, hy, hj, k _ (Int.emod_nonneg _ (by omega)) (Int.emod_lt_of_pos _ hj)⟩
theorem op_fdivL : OpR X (binaryOp .FloorDiv) (fun x y H Q => ∃ i j : Int, x = .int i ∧ y = .int j ∧ CDivW i j ∧ ∀ r : Int, Q (.int r) H) := by
  intro pins s σ H x y v u Q I rx ry h
  obtain ⟨i, j, hx, hy, hj, k⟩ := h
  exact op_fdivW pins s σ H x y v u Q I rx ry ⟨i, j, hx, hy, hj, k _⟩
theorem op_mulL : OpR X (binaryOp .Mult) (fun x y H Q => ∃ i j : Int, x = .int i ∧ y = .int j ∧ CMul i j ∧ ∀ r : Int, r = i * j → Q (.int r) H) := by
  intro pins s σ H x y v u Q I rx ry h
  obtain ⟨i, j, hx, hy, hj, k⟩ := h
  exact op_mul pins s σ H x y v u Q I rx ry ⟨i, j, hx, hy, hj, k _ rfl⟩
theorem op_addL : OpR X (binaryOp .Add) (fun x y H Q => ∃ i j : Int, x = .int i ∧ y = .int j ∧ ∀ r : Int, r = i + j → Q (.int r) H) := by
  intro pins s σ H x y v u Q I rx ry h
  obtain ⟨i, j, hx, hy, k⟩ := h
  exact op_add pins s σ H x y v u Q I rx ry ⟨i, j, hx, hy, k _ rfl⟩
theorem op_subL : OpR X (binaryOp .Sub) (fun x y H Q => ∃ i j : Int, x = .int i ∧ y = .int j ∧ ∀ r : Int, r = i - j → Q (.int r) H) := by
  intro pins s σ H x y v u Q I rx ry h
  obtain ⟨i, j, hx, hy, k⟩ := h
  exact op_sub pins s σ H x y v u Q I rx ry ⟨i, j, hx, hy, k _ rfl⟩
theorem call_absL : CallR X (.builtin "abs") (fun xs H Q => ∃ i : Int, xs = [.int i] ∧ ∀ r : Int, 0 ≤ r → r.natAbs = i.natAbs → Q (.int r) H) := by
  intro pins s σ H xs us Q I r h
  obtain ⟨i, hx, k⟩ := h
  exact call_abs pins s σ H xs us Q I r ⟨i, hx, k _ (by split <;> omega) (by split <;> omega)⟩
theorem call_int1L : CallR X (.type "int") (fun xs H Q => ∃ i : Int, xs = [.int i] ∧ Q (.int i) H) := by
  intro pins s σ H xs us Q I r h
  exact call_int1 pins s σ H xs us Q I r (.inl h)
end
end DO

namespace DO
open PySem PySem.Spec PyProof.Rows L2
section
variable {P : Program} {w : World} {K : PySem.W.Frag} {mg : Str → Option Value} {base : Heap}
/-! ### a drawn number is mixed -/
abbrev sMixed : Stmt := top 5
theorem scMixed : FnScope ["_law_cell", "_law_place", "_law_first", "_law_second", "_law_third"] ["_law_cell", "_law_place"] (defScope sMixed) := ⟨rfl, rfl, rfl, by decide +kernel, rfl, by decide +kernel, by decide +kernel⟩
def spMixed : Sp := fun vs H Q _ => ∃ (c p : Int), vs = [.int c, .int p] ∧ ∀ r : Int, Q (.int r) H
theorem ok_mixed (D : Df K mg "_law_mixed" sMixed ["_law_cell", "_law_place"]) (mi : mg "int" = none) (ma : mg "abs" = none) : FnOk P w K mg base CX0 1 D.f D.fd ["_law_cell", "_law_place"] spMixed := by
  refine D.fn.ok scMixed (fun vs H Q E h => ?_) (fun cdv A outer s H vs Q E hr h => ?_)
  · obtain ⟨c, p, rfl, _⟩ := h
    rfl
  · obtain ⟨c, p, rfl, k⟩ := h
    refine ⟨_, pss_cons (ps_set (i := 2) scMixed.nd rfl (.inl rfl) (pe_op op_modL (pe_callTy call_int1L (by rfl) mi (by decide +kernel) (pa_cons (pe_op op_addL (pe_op op_addL (pe_op op_mulL (pe_callB call_absL (by rfl) ma (by decide +kernel) (pa_cons (pv 0) pa_nil)) pe_int) (pe_op op_mulL (pv 1) pe_int)) pe_int) pa_nil)) pe_int))
      (pss_cons (ps_set (i := 3) scMixed.nd rfl (.inl rfl) (pe_op op_modL (pe_callTy call_int1L (by rfl) mi (by decide +kernel) (pa_cons (pe_op op_addL (pe_op op_addL (pe_op op_addL (pe_op op_mulL (pv 2) (pv 2)) (pe_op op_mulL (pe_callB call_absL (by rfl) ma (by decide +kernel) (pa_cons (pv 0) pa_nil)) pe_int)) (pe_op op_mulL (pv 1) pe_int)) pe_int) pa_nil)) pe_int))
      (pss_cons (ps_set (i := 4) scMixed.nd rfl (.inl rfl) (pe_op op_modL (pe_callTy call_int1L (by rfl) mi (by decide +kernel) (pa_cons (pe_op op_addL (pe_op op_addL (pe_op op_mulL (pv 3) pe_int) (pe_op op_mulL (pv 2) pe_int)) pe_int) pa_nil)) pe_int))
      (pss_one (ps_ret (pe_op op_addL (pv 4) pe_int))))), ?_⟩
    refine ⟨_, rfl, _, rfl, fun _ _ _ => ⟨_, _, rfl, rfl, .inr ⟨by decide, by decide⟩, fun _ _ => ⟨_, rfl, _, _, rfl, rfl, .inr ⟨by decide, by decide⟩, fun _ _ => ⟨_, _, rfl, rfl, fun _ _ => ⟨_, _, rfl, rfl, fun _ _ => ⟨_, rfl, _, _, rfl, rfl, by decide, fun x x0 x1 => ?_⟩⟩⟩⟩⟩⟩
    refine ⟨_, rfl, _, rfl, _, _, rfl, rfl, .inr ⟨by omega, by omega⟩, fun _ _ => ⟨_, rfl, _, rfl, fun _ _ _ => ⟨_, _, rfl, rfl, .inr ⟨by decide, by decide⟩, fun _ _ => ⟨_, _, rfl, rfl, fun _ _ => ⟨_, rfl, _, _, rfl, rfl, .inr ⟨by decide, by decide⟩, fun _ _ => ⟨_, _, rfl, rfl, fun _ _ => ⟨_, _, rfl, rfl, fun _ _ => ⟨_, rfl, _, _, rfl, rfl, by decide, fun y y0 y1 => ?_⟩⟩⟩⟩⟩⟩⟩⟩
    refine ⟨_, rfl, _, _, rfl, rfl, .inr ⟨by decide, by decide⟩, fun _ _ => ⟨_, rfl, _, _, rfl, rfl, .inr ⟨by decide, by decide⟩, fun _ _ => ⟨_, _, rfl, rfl, fun _ _ => ⟨_, _, rfl, rfl, fun _ _ => ⟨_, rfl, _, _, rfl, rfl, by decide, fun z z0 z1 => ?_⟩⟩⟩⟩⟩
    exact ⟨_, rfl, _, _, rfl, rfl, fun r _ => k r⟩
end
end DO

namespace DO
open PySem PySem.Spec PyProof.Rows L2
section
variable {P : Program} {w : World} {K : PySem.W.Frag} {mg : Str → Option Value} {base : Heap}
theorem at_int {ns : List Int} {i : Int} (h0 : 0 ≤ i) (h1 : i < ns.length) : ∃ v : Int, atI (ns.map V.int) i = some (.int v) := by
  obtain ⟨j, rfl⟩ := Int.eq_ofNat_of_zero_le h0
  have hj : j < ns.length := by omega
  exact ⟨ns[j], atI_nat (by rw [List.getElem?_map, List.getElem?_eq_getElem hj]; rfl)⟩
theorem sql_of {K : PySem.W.Frag} {H : Hp} {a : Addr} {xs : List V} (h : H a = some (.lst xs)) : SqL K H a xs := .inl (.inl h)
/-! ### the source of drawn numbers -/
abbrev sSource : Stmt := top 6
theorem scSource : FnScope ["_law_script"] ["_law_script"] (defScope sSource) := ⟨rfl, rfl, rfl, by decide +kernel, rfl, by decide +kernel, by decide +kernel⟩
def spSource (K : PySem.W.Frag) : Sp := fun vs H Q _ => ∃ (a : Addr) (ns : List Int), vs = [.ref a] ∧ SqL K H a (ns.map V.int) ∧ ns.length ≤ 63 ∧ ∀ s c H', H s = none → H c = none → Same H H' → Src H' s c → Q (.ref s) H'
theorem ok_source (D : Df K mg "_law_source" sSource ["_law_script"]) (ml : mg "list" = none) : FnOk P w K mg base CX0 1 D.f D.fd ["_law_script"] (spSource K) := by
  refine D.fn.ok scSource (fun vs H Q E h => ?_) (fun cdv A outer s H vs Q E hr h => ?_)
  · obtain ⟨a, ns, rfl, _⟩ := h
    rfl
  · obtain ⟨a, ns, rfl, hS, hl, k⟩ := h
    refine ⟨_, (pss_one (ps_ret (pe_lst (pa_cons pe_int (pa_cons pe_int (pa_cons (pe_callTy call_list_of (by rfl) ml (by decide +kernel) (pa_cons (pv 0) pa_nil)) pa_nil)))))), ?_⟩
    refine ⟨_, rfl, a, _, rfl, .inl hS, fun c nc => ⟨by show 3 ≤ sizeLine; decide, fun p np => ?_⟩⟩
    have npc : p ≠ c := fun e => by
      subst e
      rw [upd_same] at np
      cases np
    have np' : H p = none := by rw [upd_ne npc] at np; exact np
    refine k p c _ np' nc ((same_upd nc).trans (same_upd np)) ⟨0, 0, ns, upd_same, by decide, ?_, hl⟩
    rw [upd_ne npc.symm, upd_same]
/-! ### one choice of many -/
abbrev sTake : Stmt := top 7
theorem scTake : FnScope ["_law_source_here", "_law_many", "_law_cells", "_law_place", "_law_digit"] ["_law_source_here", "_law_many"] (defScope sTake) := ⟨rfl, rfl, rfl, by decide +kernel, rfl, by decide +kernel, by decide +kernel⟩
def spTake : Sp := fun vs H Q _ => ∃ (s c : Addr) (m : Int), vs = [.ref s, .int m] ∧ Src H s c ∧ 0 < m ∧ m.natAbs < 2 ^ 200 ∧ ∀ (d : Int) H', 0 ≤ d → d < m → Kp s H H' → Src H' s c → Q (.int d) H'
theorem ok_take (D : Df K mg "_law_take" sTake ["_law_source_here", "_law_many"]) (D5 : Df K mg "_law_mixed" sMixed ["_law_cell", "_law_place"]) (mi : mg "int" = none) (ma : mg "abs" = none) (ml : mg "len" = none) : FnOk P w K mg base CX0 2 D.f D.fd ["_law_source_here", "_law_many"] spTake := by
  have G : FnOk P w K mg base CX0 1 D5.f D5.fd ["_law_cell", "_law_place"] spMixed := ok_mixed D5 mi ma
  refine D.fn.ok scTake (fun vs H Q E h => ?_) (fun cdv A outer s H vs Q E hr h => ?_)
  · obtain ⟨a, c, m, rfl, _⟩ := h
    rfl
  · obtain ⟨a, c, m, rfl, ⟨a0, a1, ns, hs, p0, hc, hl⟩, m0, mB, k⟩ := h
    refine ⟨_, (C8.pss_cut (ps_if (pt_cmpR op_lt (pe_ix ix_list (pv 0) pe_int (fun _ _ => rfl)) (pe_op op_mulL pe_int (pv 1)) (nomark _))
      (pss_cons (ps_set (i := 2) scTake.nd rfl (.inl rfl) (pe_ix ix_list (pv 0) pe_int (fun _ _ => rfl)))
      (pss_cons (ps_set (i := 3) scTake.nd rfl (.inl rfl) (pe_ix ix_list (pv 0) pe_int (fun _ _ => rfl)))
      (pss_cons (ps_asg (pe_op op_addL (pv 3) pe_int) (pg_sub (pv 0) pe_int set_list))
      (pss_one (ps_if (PW.pt (pw_and (pt_cmpR op_lt (pv 3) (pe_callB call_len_seq (by rfl) ml PySem.boot_len (pa_cons (pv 2) pa_nil)) (nomark _)) (pw_and1 (pt_cmpR op_ge (pe_callB call_absL (by rfl) ma (by decide +kernel) (pa_cons (pe_ix ix_list (pv 2) (pv 3) (fun _ _ => rfl)) pa_nil)) (pe_op op_pow pe_int pe_int) (nomark _)))))
      (pss_one (ps_asg (pe_callB call_absL (by rfl) ma (by decide +kernel) (pa_cons (pe_ix ix_list (pv 2) (pv 3) (fun _ _ => rfl)) pa_nil)) (pg_sub (pv 0) pe_int set_list)))
      (pss_one (ps_if (pt_cmpR op_gt (pe_callB call_len_seq (by rfl) ml PySem.boot_len (pa_cons (pv 2) pa_nil)) pe_int (nomark _))
      (pss_one (ps_asg (pe_call G hr (by rfl) D5.mgf D5.fn.kp D5.bd .nil pass0 (pa_cons (pe_ix ix_list (pv 2) (pe_op op_modL (pe_callTy call_int1L (by rfl) mi (by decide +kernel) (pa_cons (pv 3) pa_nil)) (pe_callB call_len_seq (by rfl) ml PySem.boot_len (pa_cons (pv 2) pa_nil))) (fun _ _ => rfl)) (pa_cons (pv 3) pa_nil))) (pg_sub (pv 0) pe_int set_list)))
      (pss_one (ps_asg (pe_call G hr (by rfl) D5.mgf D5.fn.kp D5.bd .nil pass0 (pa_cons pe_int (pa_cons (pv 3) pa_nil))) (pg_sub (pv 0) pe_int set_list))))))))))
      pss_nil)
      (pss_cons (ps_set (i := 4) scTake.nd rfl (.inl rfl) (pe_op op_modL (pe_callTy call_int1L (by rfl) mi (by decide +kernel) (pa_cons (pe_ix ix_list (pv 0) pe_int (fun _ _ => rfl)) pa_nil)) (pv 1)))
      (pss_cons (ps_asg (pe_op op_fdivL (pe_callTy call_int1L (by rfl) mi (by decide +kernel) (pa_cons (pe_ix ix_list (pv 0) pe_int (fun _ _ => rfl)) pa_nil)) (pv 1)) (pg_sub (pv 0) pe_int set_list))
      (pss_one (ps_ret (pv 4)))))), ?_⟩
    have nca : c ≠ a := Src.ne hs hc
    refine ⟨fun σ' H' => ∃ x2 x3, σ' = [some (.ref a), some (.int m), x2, x3, none] ∧ Src H' a c ∧ Kp a H H', ?_, ?_⟩
    · refine ⟨_, rfl, a, _, 0, .int a0, rfl, rfl, sql_of hs, rfl, _, rfl, 2, m, rfl, rfl, .inl ⟨by decide, by decide⟩, fun z _ => ⟨_, _, rfl, rfl, _, rfl, ite2 (fun _ => ?_) (fun _ => ?_)⟩⟩
      · -- a new cell
        refine ⟨_, rfl, a, _, 2, .ref c, rfl, rfl, sql_of hs, rfl, _, rfl, a, _, 1, .int a1, rfl, rfl, sql_of hs, rfl, _, rfl, _, _, rfl, rfl, fun b1 eb => ⟨_, rfl, a, _, 1, 1, rfl, rfl, hs, rfl, ?_⟩⟩
        have hs1 : (upd H a (.lst ([V.int a0, V.int a1, V.ref c].set 1 (V.int b1)))) a = some (.lst [V.int a0, V.int b1, V.ref c]) := upd_same
        have hc1 : (upd H a (.lst ([V.int a0, V.int a1, V.ref c].set 1 (V.int b1)))) c = some (.lst (ns.map V.int)) := by rw [upd_ne nca]; exact hc
        have kp1 : Kp a H (upd H a (.lst ([V.int a0, V.int a1, V.ref c].set 1 (V.int b1)))) := Kp.upd
        generalize (upd H a (.lst ([V.int a0, V.int a1, V.ref c].set 1 (V.int b1)))) = H1 at hs1 hc1 kp1
        have fin : ∀ r : Int, ∃ p xs k j, V.ref a = .ref p ∧ V.int 0 = .int k ∧ H1 p = some (.lst xs) ∧ ixN xs.length k = some j ∧ (∃ x2 x3, [some (V.ref a), some (V.int m), some (V.ref c), some (V.int a1), none] = [some (V.ref a), some (V.int m), x2, x3, none] ∧ Src (upd H1 p (.lst (xs.set j (.int r)))) a c ∧ Kp a H (upd H1 p (.lst (xs.set j (.int r))))) := fun r =>
          ⟨a, _, 0, 0, rfl, rfl, hs1, rfl, _, _, rfl, ⟨r, b1, ns, upd_same, by omega, by rw [upd_ne nca]; exact hc1, hl⟩, kp1.trans Kp.upd⟩
        refine ⟨_, rfl, _, rfl, c, _, rfl, .inl (sql_of hc1), _, _, rfl, rfl, _, rfl, ?_⟩
        refine ite2 (fun e => ?_) (fun e => ?_)
        · have e1 : a1 < (ns.map V.int).length := of_decide_eq_true e
          rw [List.length_map] at e1
          obtain ⟨cv, hcv⟩ := at_int p0 e1
          refine ⟨_, rfl, _, rfl, c, _, a1, _, rfl, rfl, sql_of hc1, hcv, cv, rfl, fun r r0 r1 => ⟨10, 18, rfl, rfl, ⟨by decide, by decide, by decide⟩, _, _, rfl, rfl, _, rfl, ite2 (fun _ => ?_) (fun _ => ?_)⟩⟩
          · exact ⟨_, rfl, _, rfl, c, _, a1, _, rfl, rfl, sql_of hc1, hcv, cv, rfl, fun r' _ _ => ⟨_, rfl, fin r'⟩⟩
          · skip
            refine ⟨_, rfl, c, _, rfl, .inl (sql_of hc1), _, _, rfl, rfl, _, rfl, ite2 (fun e2 => ?_) (fun _ => ?_)⟩
            · have e3 : (0 : Int) < (ns.map V.int).length := of_decide_eq_true e2
              refine ⟨_, rfl, _, rfl, a1, rfl, _, rfl, c, _, rfl, .inl (sql_of hc1), _, _, rfl, rfl, e3, fun d d0 d1 => ?_⟩
              rw [List.length_map] at d1
              obtain ⟨cv, hcv⟩ := at_int d0 d1
              exact ⟨c, _, d, _, rfl, rfl, sql_of hc1, hcv, _, rfl, cv, a1, rfl, fun r => ⟨_, rfl, fin r⟩⟩
            · exact ⟨_, rfl, 0, a1, rfl, fun r => ⟨_, rfl, fin r⟩⟩
        · skip
          refine ⟨_, rfl, c, _, rfl, .inl (sql_of hc1), _, _, rfl, rfl, _, rfl, ite2 (fun e2 => ?_) (fun _ => ?_)⟩
          · have e3 : (0 : Int) < (ns.map V.int).length := of_decide_eq_true e2
            refine ⟨_, rfl, _, rfl, a1, rfl, _, rfl, c, _, rfl, .inl (sql_of hc1), _, _, rfl, rfl, e3, fun d d0 d1 => ?_⟩
            rw [List.length_map] at d1
            obtain ⟨cv, hcv⟩ := at_int d0 d1
            exact ⟨c, _, d, _, rfl, rfl, sql_of hc1, hcv, _, rfl, cv, a1, rfl, fun r => ⟨_, rfl, fin r⟩⟩
          · exact ⟨_, rfl, 0, a1, rfl, fun r => ⟨_, rfl, fin r⟩⟩
      · exact ⟨none, none, rfl, ⟨a0, a1, ns, hs, p0, hc, hl⟩, Kp.refl⟩
    · rintro σ' H' ⟨x2, x3, rfl, ⟨a0', a1', ns', hs', p0', hc', hl'⟩, kp'⟩
      have nca' : c ≠ a := Src.ne hs' hc'
      refine ⟨_, rfl, a, _, 0, .int a0', rfl, rfl, sql_of hs', rfl, _, rfl, _, rfl, _, _, rfl, rfl, m0, fun d d0 d1 => ?_⟩
      refine ⟨_, rfl, a, _, 0, .int a0', rfl, rfl, sql_of hs', rfl, _, rfl, _, rfl, _, _, rfl, rfl, wide_div m0 mB (by decide) (by decide), fun r => ⟨_, rfl, a, _, 0, 0, rfl, rfl, hs', rfl, _, rfl, ?_⟩⟩
      exact k d _ d0 d1 (kp'.trans Kp.upd) ⟨r, a1', ns', upd_same, p0', by rw [upd_ne nca']; exact hc', hl'⟩
end
end DO

namespace DO
open PySem PySem.Spec PyProof.Rows L2
section
variable {P : Program} {w : World} {K : PySem.W.Frag} {mg : Str → Option Value} {base : Heap}
/-! ### texts of one sign -/
def sg (c : Nat) : Str := ⟨#[c]⟩
def SgL (cs : List Nat) : List V := cs.map fun c => V.str (sg c)
theorem sg_inj {a b : Nat} (h : sg a = sg b) : a = b := by
  have e := congrArg (fun z : Str => z.cps.toList) h
  have e2 : [a] = [b] := e
  injection e2
theorem sg_beq (a b : Nat) : (sg a == sg b) = decide (a = b) := by
  by_cases e : a = b
  · subst e
    simp
  · rw [decide_eq_false e]
    exact beq_eq_false_iff_ne.mpr fun h => e (sg_inj h)
theorem eqV_sg (a b : Nat) : eqV (.str (sg a)) (.str (sg b)) = decide (a = b) := sg_beq a b
theorem inV_sg (c : Nat) (cs : List Nat) : inV (.str (sg c)) (SgL cs) = decide (c ∈ cs) := by
  unfold inV SgL
  induction cs with
  | nil => rfl
  | cons x r ih =>
    rw [List.map_cons, List.any_cons, ih, eqV_sg]
    by_cases e : x = c
    · subst e
      simp
    · have e' : ¬ c = x := fun z => e z.symm
      simp [e, e']
theorem flat_sg (cs : List Nat) : (SgL cs).all flatV = true := by
  unfold SgL
  rw [List.all_eq_true]
  intro x hx
  obtain ⟨c, _, rfl⟩ := List.mem_map.mp hx
  rfl
theorem SgL_len (cs : List Nat) : (SgL cs).length = cs.length := by
  unfold SgL
  rw [List.length_map]
theorem SgL_at {cs : List Nat} {i : Int} (h0 : 0 ≤ i) (h1 : i < cs.length) : ∃ c ∈ cs, atI (SgL cs) i = some (.str (sg c)) := by
  obtain ⟨j, rfl⟩ := Int.eq_ofNat_of_zero_le h0
  have hj : j < cs.length := by omega
  exact ⟨cs[j], List.getElem_mem hj, atI_nat (by unfold SgL; rw [List.getElem?_map, List.getElem?_eq_getElem hj]; rfl)⟩
/-- of a list without repeats each left-out item takes one at most -/
theorem len_ne {l : List Nat} (hl : l.Nodup) (x : Nat) : l.length ≤ (l.filter fun c => !decide (c = x)).length + 1 := by
  induction l with
  | nil => simp
  | cons a r ih =>
    obtain ⟨h1, h2⟩ := List.nodup_cons.mp hl
    by_cases e : a = x
    · subst e
      have q : (r.filter fun c => !decide (c = a)) = r := List.filter_eq_self.mpr fun c hc => by
        have : ¬ c = a := fun z => h1 (z ▸ hc)
        simp [this]
      rw [List.filter_cons, if_neg (by simp), q]
      simp
    · have q := ih h2
      rw [List.filter_cons, if_pos (by simp [e])]
      simp only [List.length_cons]
      omega
theorem len_out {l : List Nat} (hl : l.Nodup) (cs : List Nat) : l.length ≤ (l.filter fun c => !decide (c ∈ cs)).length + cs.length := by
  induction cs with
  | nil =>
    have q : (l.filter fun c => !decide (c ∈ ([] : List Nat))) = l := List.filter_eq_self.mpr fun c _ => by simp
    rw [q]
    simp
  | cons x r ih =>
    have e : (l.filter fun c => !decide (c ∈ x :: r)) = ((l.filter fun c => !decide (c ∈ r)).filter fun c => !decide (c = x)) := by
      rw [List.filter_filter]
      apply List.filter_congr
      intro c _
      by_cases h1 : c = x <;> by_cases h2 : c ∈ r <;> simp [h1, h2]
    have q := len_ne (hl.filter (fun c => !decide (c ∈ r))) x
    rw [e, List.length_cons]
    omega
theorem iteF' {b : Bool} {A B : Prop} (e : b = false) (h : B) : if b = true then A else B := by
  subst e
  exact iteF h
theorem iteT' {b : Bool} {A B : Prop} (e : b = true) (h : A) : if b = true then A else B := by
  subst e
  exact iteT h
theorem Src.of_same {H H' : Hp} {a c : Addr} (h : Src H a c) (e : Same H H') : Src H' a c := by
  obtain ⟨a0, a1, ns, hs, p0, hc, hl⟩ := h
  exact ⟨a0, a1, ns, e _ _ hs, p0, e _ _ hc, hl⟩
theorem Src.of_upd {H : Hp} {a c f : Addr} {o : HO} (h : Src H a c) (h1 : a ≠ f) (h2 : c ≠ f) : Src (upd H f o) a c := by
  obtain ⟨a0, a1, ns, hs, p0, hc, hl⟩ := h
  exact ⟨a0, a1, ns, by rw [upd_ne h1]; exact hs, p0, by rw [upd_ne h2]; exact hc, hl⟩
/-! ### some signs -/
abbrev sSigns : Stmt := top 8
def alph : Str := "!\"#$&'()*+,-./0123456789:;<=>?@ABCDEFGHIJKLMNOPQRSTUVWXYZ[\\]^_`abcdefghijklmnopqrstuvwxyz{|}~"
theorem alph_len : alph.cps.size = 93 := by decide +kernel
theorem alph_nd : alph.cps.toList.Nodup := by decide +kernel
theorem scSigns : FnScope ["_law_source_here", "_law_many", "_law_chars", "_law_found", "_law_k", "_law_left", "_law_char"] ["_law_source_here", "_law_many"] (defScope sSigns) := ⟨rfl, rfl, rfl, by decide +kernel, rfl, by decide +kernel, by decide +kernel⟩
def spSigns : Sp := fun vs H Q _ => ∃ (a c : Addr) (m : Int), vs = [.ref a, .int m] ∧ Src H a c ∧ 1 ≤ m ∧ m ≤ 93 ∧ ∀ (cs : List Nat) (f : Addr) (H' : Hp), H f = none → Kp a H H' → Src H' a c → H' f = some (.lst (SgL cs)) → (cs.length : Int) = m → (∀ c ∈ cs, c ∈ alph.cps.toList) → Q (.ref f) H'
theorem ok_signs (D : Df K mg "_law_signs" sSigns ["_law_source_here", "_law_many"]) (D7 : Df K mg "_law_take" sTake ["_law_source_here", "_law_many"]) (G : FnOk P w K mg base CX0 2 D7.f D7.fd ["_law_source_here", "_law_many"] spTake)
    (mr : mg "range" = none) (ml : mg "len" = none) : FnOk P w K mg base CX0 3 D.f D.fd ["_law_source_here", "_law_many"] spSigns := by
  refine D.fn.ok scSigns (fun vs H Q E h => ?_) (fun cdv A outer s H vs Q E hr h => ?_)
  · obtain ⟨a, c, m, rfl, _⟩ := h
    rfl
  · obtain ⟨a, c, m, rfl, hsrc, m1, m93, k⟩ := h
    refine ⟨_, (pss_cons (ps_set (i := 2) scSigns.nd rfl (.inl rfl) pe_str)
      (pss_cons (ps_set (i := 3) scSigns.nd rfl (.inr rfl) (pe_lst pa_nil))
      (pss_cons (ps_for PassesOwn.never rfl (pi_range1 rfl mr (pa_cons (pv 1) pa_nil)) (pg_name (i := 4) scSigns.nd rfl (Or.inl rfl))
      (pss_cons (ps_setLc (i := 5) (own := [("_law_char", 6)]) (g := gName 6) (tt := _) rfl scSigns.nd rfl rfl (sw_true rfl rfl rfl (by decide +kernel)) (pi_str (pv 2)) (blkOk_by (N := ["_law_source_here", "_law_many", "_law_chars", "_law_found", "_law_k", "_law_left", "_law_char"]) (sc := defScope sSigns) (by decide +kernel)) (fun _ _ _ _ _ => pg_name (i := 6) scSigns.nd rfl (Or.inl rfl)) (fun _ _ _ _ _ => pts_one (pt_cmpR (show OpR _ _ (rIn K true) from op_notIn_seq) (pv 6) (pv 3) rfl)) (fun _ _ _ _ _ => (pv 6)))
      (pss_one (ps_expr (pe_bm PySem.F.plainAttrs_list PySem.F.slot_list_append PySem.F.type_list_append mt_append (pv 3) (pa_cons (pe_ix ix_list (pv 5) (pe_call G hr (by rfl) D7.mgf D7.fn.kp D7.bd .nil pass0 (pa_cons (pv 0) (pa_cons (pe_callB call_len_seq (by rfl) ml PySem.boot_len (pa_cons (pv 5) pa_nil)) pa_nil))) (fun _ _ => rfl)) pa_nil))))))
      (pss_one (ps_ret (pv 3)))))), ?_⟩
    refine ⟨Nat.zero_le _, fun f nf => ?_⟩
    have hfa : f ≠ a := fun e => by
      subst e
      obtain ⟨_, _, _, hs, _⟩ := hsrc
      rw [nf] at hs
      cases hs
    have hcf : c ≠ f := fun e => by
      subst e
      obtain ⟨_, _, _, _, _, hs, _⟩ := hsrc
      rw [nf] at hs
      cases hs
    refine ⟨_, rfl, m, rfl, by omega, by omega, for_range (lo := 0) (n := m.toNat) (fun i σ H2 => ∃ (cs : List Nat) (x4 x5 : Option V), σ = [some (.ref a), some (.int m), some (.str alph), some (.ref f), x4, x5, none] ∧ cs.length = i ∧ H2 f = some (.lst (SgL cs)) ∧ (∀ c ∈ cs, c ∈ alph.cps.toList) ∧ Kp a H H2 ∧ Src H2 a c)
      ⟨[], none, none, rfl, rfl, upd_same, fun c hc => by simp at hc, Kp.same (same_upd nf), ?_⟩ ?_ ?_⟩
    · exact hsrc.of_same (same_upd nf)
    · rintro i σ H2 hi ⟨cs, x4, x5, rfl, hlen, hf, hcs, kp, sr⟩
      have hal : alph.cps.toList.length = 93 := by rw [Array.length_toList]; exact alph_len
      -- the signs that are left
      refine ⟨_, rfl, alph, rfl, fun L nL => lc_it walk_str (fun j H3 => H3 = upd H2 L (.lst (SgL ((alph.cps.toList.take j).filter fun c => !decide (c ∈ cs))))) rfl (fun _ _ _ _ => trivial) ?_ ?_⟩
      · rintro j x H3 H4 hj rfl ⟨rfl, c, hc, rfl⟩
        have hc' : alph.cps.toList[j]? = some c := by rw [Array.getElem?_toList]; exact hc
        have hfL : f ≠ L := ne_of_none hf nL
        refine ⟨rfl, ⟨_, rfl, _, rfl, f, SgL cs, rfl, .inl (sql_of (by rw [upd_ne hfL]; exact hf)), rfl, flat_sg cs, _, rfl, ?_⟩⟩
        rw [List.take_add_one, hc', Option.toList_some, List.filter_append]
        by_cases e : c ∈ cs
        · refine iteF' (by show (!inV (.str (sg c)) (SgL cs)) = false; rw [inV_sg]; simp [e]) ?_
          simp [e]
        · refine iteT' (by show (!inV (.str (sg c)) (SgL cs)) = true; rw [inV_sg]; simp [e]) ?_
          refine ⟨_, rfl, _, upd_same, ?_, ?_⟩
          · rw [SgL_len]
            refine Nat.lt_of_le_of_lt (List.length_filter_le _ _) ?_
            rw [List.length_take]
            exact small1000 (by omega)
          · rw [upd_upd]
            simp [e, SgL]
            rfl
      · rintro H3 rfl
        have et : alph.cps.toList.take alph.cps.size = alph.cps.toList := List.take_of_length_le (by rw [Array.length_toList]; exact Nat.le_refl _)
        rw [et]
        have hlo := len_out alph_nd cs
        have hsub : ∀ c ∈ alph.cps.toList.filter (fun c => !decide (c ∈ cs)), c ∈ alph.cps.toList := fun c hc => (List.mem_filter.mp hc).1
        have hup := List.length_filter_le (fun c => !decide (c ∈ cs)) alph.cps.toList
        generalize alph.cps.toList.filter (fun c => !decide (c ∈ cs)) = ls at hlo hsub hup
        rw [hal] at hlo hup
        have hls : 0 < ls.length := by omega
        have hfL : f ≠ L := ne_of_none hf nL
        have hLa : L ≠ a := fun e => by
          subst e
          obtain ⟨_, _, _, hs, _⟩ := sr
          rw [nL] at hs
          cases hs
        have sm := same_upd (o := .lst (SgL ls)) nL
        have sr3 : Src (upd H2 L (.lst (SgL ls))) a c := sr.of_same sm
        refine ⟨_, rfl, .inl ⟨rfl, _, sql_of (by rw [upd_ne hfL]; exact hf)⟩, _, rfl, _, rfl, _, rfl, L, _, rfl, .inl (sql_of upd_same), a, c, (ls.length : Int), ?_, sr3, by omega, ?_, fun d H4 d0 d1 kp4 sr4 => ?_⟩
        · rw [SgL_len]
          rfl
        · exact Nat.lt_of_le_of_lt (show (ls.length : Int).natAbs ≤ 93 by omega) (by decide)
        · obtain ⟨c', hc', hat⟩ := SgL_at d0 d1
          have hL4 : H4 L = some (.lst (SgL ls)) := kp4 _ _ upd_same hLa
          have hf4 : H4 f = some (.lst (SgL cs)) := kp4 _ _ (by rw [upd_ne hfL]; exact hf) hfa
          refine ⟨L, _, d, _, rfl, rfl, sql_of hL4, hat, f, _, _, rfl, rfl, hf4, ?_, cs ++ [c'], _, _, rfl, ?_, ?_, ?_, ?_, ?_⟩
          · rw [SgL_len]
            exact small1000 (by omega)
          · rw [List.length_append, hlen]
            rfl
          · rw [upd_same]
            unfold SgL
            rw [List.map_append]
            rfl
          · intro x hx
            rcases List.mem_append.mp hx with z | z
            · exact hcs x z
            · exact hsub x (List.mem_singleton.mp z ▸ hc')
          · intro b o e nb
            rw [upd_ne (ne_of_none e nf)]
            exact kp4 _ _ (sm _ _ (kp _ _ e nb)) nb
          · exact sr4.of_upd hfa.symm hcf
    · rintro σ H2 ⟨cs, x4, x5, rfl, hlen, hf, hcs, kp, sr⟩
      exact ⟨_, rfl, k cs f H2 nf kp sr hf (by omega) hcs⟩
end
end DO

namespace DO
open PySem PySem.Spec PyProof.Rows L2
section
variable {P : Program} {w : World} {K : PySem.W.Frag} {mg : Str → Option Value} {base : Heap}
/-! ### a text of signs -/
def tx (ds : List Nat) : Str := ⟨ds.toArray⟩
theorem tx_of (z : Str) : ∃ ds, z = tx ds := ⟨z.cps.toList, by unfold tx; simp⟩
theorem tx_len (ds : List Nat) : (tx ds).length = ds.length := by
  show ds.toArray.size = ds.length
  simp
theorem glue_tx (ds : List Nat) : ∀ (acc : Array Nat), List.foldl (fun acc (p : Str) => acc ++ (Str.ofString "").cps ++ p.cps) acc (ds.map sg) = acc ++ ds.toArray := by
  have e0 : (Str.ofString "").cps = #[] := by decide +kernel
  rw [e0]
  induction ds with
  | nil => intro acc; simp
  | cons x r ih =>
    intro acc
    rw [List.map_cons, List.foldl_cons, ih]
    show acc ++ #[] ++ #[x] ++ r.toArray = acc ++ (x :: r).toArray
    apply Array.toList_inj.mp
    simp
theorem join_tx (ds : List Nat) : Txt.join (Str.ofString "") (ds.map sg) = tx ds := by
  show Builtin.Str.glued (Str.ofString "") (ds.map sg) = tx ds
  unfold Builtin.Str.glued tx
  cases ds with
  | nil => rfl
  | cons x r =>
    rw [List.map_cons, List.drop_succ_cons, List.drop_zero, List.headD_cons, glue_tx]
    show (⟨#[x] ++ r.toArray⟩ : Str) = ⟨(x :: r).toArray⟩
    simp
theorem SgL_str (ds : List Nat) : SgL ds = (ds.map sg).map V.str := by
  unfold SgL
  rw [List.map_map]
  rfl
theorem sum_len_sg (ds : List Nat) : ((ds.map sg).map (·.length)).sum = ds.length := by
  induction ds with
  | nil => rfl
  | cons x r ih =>
    rw [List.map_cons, List.map_cons, List.sum_cons, ih, List.length_cons]
    show 1 + r.length = r.length + 1
    omega
theorem join_room {ds : List Nat} (h : ds.length ≤ 1000) : ((ds.map sg).map (·.length)).sum + (ds.map sg).length * (Str.ofString "").length ≤ 16777216 := by
  rw [sum_len_sg]
  have e : (Str.ofString "").length = 0 := by decide +kernel
  rw [e]
  omega
abbrev sText : Stmt := top 9
theorem scText : FnScope ["_law_source_here", "_law_signs_here", "_law_size", "_law_k"] ["_law_source_here", "_law_signs_here", "_law_size"] (defScope sText) := ⟨rfl, rfl, rfl, by decide +kernel, rfl, by decide +kernel, by decide +kernel⟩
def spText : Sp := fun vs H Q _ => ∃ (a c l : Addr) (cs : List Nat) (n : Int), vs = [.ref a, .ref l, .int n] ∧ Src H a c ∧ l ≠ a ∧ H l = some (.lst (SgL cs)) ∧ 0 < cs.length ∧ cs.length ≤ 100 ∧ 0 ≤ n ∧ n ≤ 100 ∧
  ∀ (ds : List Nat) H', (ds.length : Int) = n → (∀ x ∈ ds, x ∈ cs) → Kp a H H' → Src H' a c → Q (.str (tx ds)) H'
theorem ok_text (D : Df K mg "_law_text" sText ["_law_source_here", "_law_signs_here", "_law_size"]) (D7 : Df K mg "_law_take" sTake ["_law_source_here", "_law_many"]) (G : FnOk P w K mg base CX0 2 D7.f D7.fd ["_law_source_here", "_law_many"] spTake)
    (mr : mg "range" = none) (ml : mg "len" = none) : FnOk P w K mg base CX0 3 D.f D.fd ["_law_source_here", "_law_signs_here", "_law_size"] spText := by
  refine D.fn.ok scText (fun vs H Q E h => ?_) (fun cdv A outer s H vs Q E hr h => ?_)
  · obtain ⟨a, c, l, cs, n, rfl, _⟩ := h
    rfl
  · obtain ⟨a, c, l, cs, n, rfl, hsrc, hla, hL, c0, c1, n0, n1, k⟩ := h
    refine ⟨_, (pss_one (ps_ret (pe_join pe_str (pe_lc (own := [("_law_k", 3)]) (g := gName 3) (tt := tYes) rfl scText.nd (pi_range1 rfl mr (pa_cons (pv 2) pa_nil)) (blkOk_by (N := ["_law_source_here", "_law_signs_here", "_law_size", "_law_k"]) (sc := defScope sText) (by decide +kernel)) (fun _ _ _ _ _ => pg_name (i := 3) scText.nd rfl (Or.inl rfl)) (fun _ _ _ _ _ => pts_nil) (fun _ _ _ _ _ => (pe_ix (show IxR _ (rIxL K) from ix_list) (pv 1) (pe_call G hr (by rfl) D7.mgf D7.fn.kp D7.bd .nil pass0 (pa_cons (pv 0) (pa_cons (pe_callB (show CallR _ _ (fun xs H Q => ∃ p ys, xs = [V.ref p] ∧ (SqL K H p ys ∨ SqT K H p ys) ∧ Q (.int ys.length) H) from call_len_seq) (by rfl) ml PySem.boot_len (pa_cons (pv 1) pa_nil)) pa_nil))) (fun _ _ => rfl))))))), ?_⟩
    refine ⟨⟨_, rfl⟩, _, rfl, n, rfl, by omega, by omega, fun D nD => lc_range (lo := 0) (n := n.toNat) (fun i H2 => ∃ ds : List Nat, H2 D = some (.lst (SgL ds)) ∧ ds.length = i ∧ (∀ x ∈ ds, x ∈ cs) ∧ Kp a H H2 ∧ Src H2 a c)
      ⟨[], upd_same, rfl, fun x hx => by simp at hx, Kp.same (same_upd nD), hsrc.of_same (same_upd nD)⟩ ?_ ?_⟩
    · rintro i H2 hi ⟨ds, hD, hlen, hds, kp, sr⟩
      have hL2 : H2 l = some (.lst (SgL cs)) := kp _ _ hL hla
      have hDa : D ≠ a := fun e => by
        subst e
        obtain ⟨_, _, _, hs, _⟩ := hsrc
        rw [nD] at hs
        cases hs
      have hDc : c ≠ D := fun e => by
        subst e
        obtain ⟨_, _, _, _, _, hs, _⟩ := hsrc
        rw [nD] at hs
        cases hs
      refine ⟨rfl, ?_⟩
      refine ⟨_, rfl, _, rfl, _, rfl, l, _, rfl, .inl (sql_of hL2), a, c, (cs.length : Int), ?_, sr, by omega, ?_, fun d H4 d0 d1 kp4 sr4 => ?_⟩
      · rw [SgL_len]
        rfl
      · exact Nat.lt_of_le_of_lt (show (cs.length : Int).natAbs ≤ 100 by omega) (by decide)
      · obtain ⟨c', hc', hat⟩ := SgL_at d0 d1
        have hL4 : H4 l = some (.lst (SgL cs)) := kp4 _ _ hL2 hla
        have hD4 : H4 D = some (.lst (SgL ds)) := kp4 _ _ hD hDa
        refine ⟨l, _, d, _, rfl, rfl, sql_of hL4, hat, _, hD4, ?_, ds ++ [c'], ?_, ?_, ?_, ?_, ?_⟩
        · rw [SgL_len]
          exact small1000 (by omega)
        · rw [upd_same]
          unfold SgL
          rw [List.map_append]
          rfl
        · rw [List.length_append, hlen]
          rfl
        · intro x hx
          rcases List.mem_append.mp hx with z | z
          · exact hds x z
          · exact (List.mem_singleton.mp z).symm ▸ hc'
        · intro b o e nb
          rw [upd_ne (ne_of_none e nD)]
          exact kp4 _ _ (kp _ _ e nb) nb
        · exact sr4.of_upd hDa.symm hDc
    · rintro H2 ⟨ds, hD, hlen, hds, kp, sr⟩
      refine ⟨_, _, ds.map sg, rfl, rfl, .inl (sql_of (by rw [← SgL_str]; exact hD)), join_room (by omega), ?_⟩
      rw [join_tx]
      exact k ds H2 (by omega) hds kp sr
/-! ### a number -/
section
variable {X : Cx}
theorem op_powL : OpR X (binaryOp .Pow) (fun x y H Q => ∃ i j : Int, x = .int i ∧ y = .int j ∧ CPow i j ∧ ∀ r : Int, r = i ^ j.toNat → Q (.int r) H) := by
  intro pins s σ H x y v u Q I rx ry h
  obtain ⟨i, j, hx, hy, hj, k⟩ := h
  exact op_pow pins s σ H x y v u Q I rx ry ⟨i, j, hx, hy, hj, k _ rfl⟩
end
abbrev sNumber : Stmt := top 10
theorem scNumber : FnScope ["_law_source_here", "_law_kind", "_law_sign"] ["_law_source_here"] (defScope sNumber) := ⟨rfl, rfl, rfl, by decide +kernel, rfl, by decide +kernel, by decide +kernel⟩
def spNumber : Sp := fun vs H Q _ => ∃ (a c : Addr), vs = [.ref a] ∧ Src H a c ∧ ∀ (n : Int) H', n.natAbs < 2 ^ 200 → Kp a H H' → Src H' a c → Q (.int n) H'
theorem sign_mul {z r x : Int} (hz : z = 1 ∨ z = -1) (hr : r = z * x) (hx : x.natAbs < 2 ^ 200) : r.natAbs < 2 ^ 200 := by
  rcases hz with rfl | rfl <;> (subst hr; omega)
theorem ok_number (D : Df K mg "_law_number" sNumber ["_law_source_here"]) (D7 : Df K mg "_law_take" sTake ["_law_source_here", "_law_many"]) (G : FnOk P w K mg base CX0 2 D7.f D7.fd ["_law_source_here", "_law_many"] spTake) : FnOk P w K mg base CX0 3 D.f D.fd ["_law_source_here"] spNumber := by
  refine D.fn.ok scNumber (fun vs H Q E h => ?_) (fun cdv A outer s H vs Q E hr h => ?_)
  · obtain ⟨a, c, rfl, _⟩ := h
    rfl
  · obtain ⟨a, c, rfl, sr, k⟩ := h
    refine ⟨_, (pss_cons (ps_set (i := 1) scNumber.nd rfl (.inl rfl) (pe_call G hr (by rfl) D7.mgf D7.fn.kp D7.bd .nil pass0 (pa_cons (pv 0) (pa_cons pe_int pa_nil))))
      (pss_cons (ps_set (i := 2) scNumber.nd rfl (.inl rfl) (pe_op op_subL pe_int (pe_op op_mulL pe_int (pe_call G hr (by rfl) D7.mgf D7.fn.kp D7.bd .nil pass0 (pa_cons (pv 0) (pa_cons pe_int pa_nil))))))
      (pss_cons (ps_if (pt_cmpR op_eq (pv 1) pe_int (nomark _))
      (pss_one (ps_ret pe_int))
      pss_nil)
      (pss_cons (ps_if (pt_cmpR op_lt (pv 1) pe_int (nomark _))
      (pss_one (ps_ret (pe_op op_subL (pe_call G hr (by rfl) D7.mgf D7.fn.kp D7.bd .nil pass0 (pa_cons (pv 0) (pa_cons pe_int pa_nil))) pe_int)))
      pss_nil)
      (pss_cons (ps_if (pt_cmpR op_eq (pv 1) pe_int (nomark _))
      (pss_one (ps_ret (pe_op op_mulL (pv 2) (pe_call G hr (by rfl) D7.mgf D7.fn.kp D7.bd .nil pass0 (pa_cons (pv 0) (pa_cons (pe_op op_powL pe_int pe_int) pa_nil))))))
      pss_nil)
      (pss_one (ps_ret (pe_op op_mulL (pv 2) (pe_op op_addL (pe_op op_mulL (pe_op op_powL pe_int pe_int) (pe_op op_addL pe_int (pe_call G hr (by rfl) D7.mgf D7.fn.kp D7.bd .nil pass0 (pa_cons (pv 0) (pa_cons pe_int pa_nil))))) (pe_call G hr (by rfl) D7.mgf D7.fn.kp D7.bd .nil pass0 (pa_cons (pv 0) (pa_cons (pe_op op_powL pe_int pe_int) pa_nil)))))))))))), ?_⟩
    refine ⟨_, rfl, a, c, 6, rfl, sr, by decide, by decide, fun kd H1 k0 k1 kp1 sr1 => ⟨_, rfl, a, c, 2, rfl, sr1, by decide, by decide, fun sn H2 s0 s1 kp2 sr2 => ⟨_, _, rfl, rfl, .inl ⟨by decide, by decide⟩, fun t et => ⟨_, _, rfl, rfl, fun z ez => ?_⟩⟩⟩⟩
    have hz : z = 1 ∨ z = -1 := by omega
    have kp := kp1.trans kp2
    refine ⟨_, rfl, rfl, _, rfl, ite2 (fun _ => k 0 H2 (by decide) kp sr2) (fun _ => ⟨_, rfl, _, _, rfl, rfl, _, rfl, ite2 (fun _ => ?_) (fun _ => ⟨_, rfl, rfl, _, rfl, ite2 (fun _ => ?_) (fun _ => ?_)⟩)⟩)⟩
    · exact ⟨_, rfl, a, c, 11, rfl, sr2, by decide, by decide, fun d H3 d0 d1 kp3 sr3 => ⟨_, _, rfl, rfl, fun r er => k r H3 (by omega) (kp.trans kp3) sr3⟩⟩
    · refine ⟨_, rfl, _, rfl, 10, 18, rfl, rfl, ⟨by decide, by decide, by decide⟩, fun b eb => ?_⟩
      have hb : b = 1000000000000000000 := by rw [eb]; decide
      subst hb
      refine ⟨a, c, 1000000000000000000, rfl, sr2, by decide, by decide, fun d H3 d0 d1 kp3 sr3 => ⟨_, _, rfl, rfl, .inl ⟨by omega, by omega⟩, fun r er => k r H3 (sign_mul hz er (by omega)) (kp.trans kp3) sr3⟩⟩
    · refine ⟨_, rfl, 10, 58, rfl, rfl, ⟨by decide, by decide, by decide⟩, fun b eb => ⟨_, rfl, a, c, 9, rfl, sr2, by decide, by decide, fun d H3 d0 d1 kp3 sr3 => ⟨_, _, rfl, rfl, fun e1 he1 => ⟨_, _, rfl, rfl, .inr ⟨by omega, by omega⟩, fun e2 he2 => ⟨_, rfl, 10, 18, rfl, rfl, ⟨by decide, by decide, by decide⟩, fun b' eb' => ?_⟩⟩⟩⟩⟩
      have hb : b = 10000000000000000000000000000000000000000000000000000000000 := by rw [eb]; decide
      have hb' : b' = 1000000000000000000 := by rw [eb']; decide
      subst hb'
      subst hb
      refine ⟨a, c, 1000000000000000000, rfl, sr3, by decide, by decide, fun e3 H4 e30 e31 kp4 sr4 => ⟨_, _, rfl, rfl, fun e4 he4 => ⟨_, _, rfl, rfl, .inl ⟨by omega, by omega⟩, fun r er => k r H4 (sign_mul hz er (by omega)) ((kp.trans kp3).trans kp4) sr4⟩⟩⟩
end
end DO

namespace DO
open PySem PySem.Spec PyProof.Rows L2
section
variable {P : Program} {w : World} {K : PySem.W.Frag} {mg : Str → Option Value} {base : Heap}
/-! ### lengths: a sign and an int, in the order of their coming -/
def getL (L : List (Nat × Int)) (c : Nat) : Option Int := (L.find? fun p => decide (p.1 = c)).map (·.2)
def putL (L : List (Nat × Int)) (c : Nat) (n : Int) : List (Nat × Int) :=
  if (L.any fun p => decide (p.1 = c)) = true then L.map (fun p => if p.1 = c then (p.1, n) else p) else L ++ [(c, n)]
def LD (L : List (Nat × Int)) : List (Key × V) := L.map fun p => ((Sum.inr (sg p.1) : Key), V.int p.2)
theorem LD_len (L : List (Nat × Int)) : (LD L).length = L.length := by
  unfold LD
  rw [List.length_map]
theorem key_sg (a b : Nat) : decide ((Sum.inr (sg a) : Key) = Sum.inr (sg b)) = decide (a = b) := by
  by_cases e : a = b
  · subst e
    simp
  · rw [decide_eq_false e]
    exact decide_eq_false fun h => e (sg_inj (Sum.inr.inj h))
theorem valV_LD (L : List (Nat × Int)) (c : Nat) : valV (LD L) (Sum.inr (sg c)) = (getL L c).map V.int := by
  unfold valV getL LD
  rw [List.find?_map]
  have e : ((fun kv : Key × V => decide (kv.1 = Sum.inr (sg c))) ∘ fun p : Nat × Int => ((Sum.inr (sg p.1) : Key), V.int p.2)) = fun p => decide (p.1 = c) := by
    funext p
    exact key_sg p.1 c
  rw [e, Option.map_map, Option.map_map]
  rfl
theorem putK_LD (L : List (Nat × Int)) (c : Nat) (n : Int) : putK (LD L) (Sum.inr (sg c)) (.int n) = LD (putL L c n) := by
  have ea : ((LD L).any fun kv => decide (kv.1 = (Sum.inr (sg c) : Key))) = L.any fun p => decide (p.1 = c) := by
    unfold LD
    rw [List.any_map]
    congr 1
    funext p
    exact key_sg p.1 c
  unfold putK putL
  rw [ea]
  split
  · unfold LD
    rw [List.map_map, List.map_map]
    apply List.map_congr_left
    intro p _
    show (if (Sum.inr (sg p.1) : Key) = Sum.inr (sg c) then _ else _) = _
    by_cases e : p.1 = c
    · simp [e]
    · have h : ¬ (Sum.inr (sg p.1) : Key) = Sum.inr (sg c) := fun z => e (sg_inj (Sum.inr.inj z))
      simp [e, h]
  · unfold LD
    rw [List.map_append]
    rfl
theorem getL_none {L : List (Nat × Int)} {c : Nat} : getL L c = none ↔ ∀ p ∈ L, p.1 ≠ c := by
  unfold getL
  rw [Option.map_eq_none_iff, List.find?_eq_none]
  simp
theorem getL_mem {L : List (Nat × Int)} {c : Nat} {n : Int} (h : getL L c = some n) : (c, n) ∈ L := by
  unfold getL at h
  obtain ⟨p, hp, e⟩ := Option.map_eq_some_iff.mp h
  have h1 := List.mem_of_find?_eq_some hp
  have h2 := List.find?_some hp
  have h3 : p.1 = c := of_decide_eq_true h2
  subst h3
  subst e
  exact h1
theorem mem_getL : ∀ {L : List (Nat × Int)} {c : Nat} {n : Int}, (L.map (·.1)).Nodup → (c, n) ∈ L → getL L c = some n
  | [], _, _, _, h => by simp at h
  | p :: r, c, n, hn, h => by
    obtain ⟨h1, h2⟩ := List.nodup_cons.mp (show (p.1 :: r.map (·.1)).Nodup from hn)
    unfold getL
    rw [List.find?_cons]
    rcases List.mem_cons.mp h with z | z
    · subst z
      simp
    · have e : ¬ p.1 = c := fun q => h1 (q ▸ List.mem_map.mpr ⟨(c, n), z, rfl⟩)
      rw [decide_eq_false e]
      exact mem_getL h2 z
theorem any_iff {L : List (Nat × Int)} {c : Nat} : (L.any fun p => decide (p.1 = c)) = true ↔ c ∈ L.map (·.1) := by
  rw [List.any_eq_true, List.mem_map]
  exact ⟨fun ⟨p, h, e⟩ => ⟨p, h, of_decide_eq_true e⟩, fun ⟨p, h, e⟩ => ⟨p, h, decide_eq_true e⟩⟩
theorem putL_keys {L : List (Nat × Int)} {c : Nat} {n : Int} : (putL L c n).map (·.1) = if c ∈ L.map (·.1) then L.map (·.1) else L.map (·.1) ++ [c] := by
  unfold putL
  by_cases h : c ∈ L.map (·.1)
  · rw [if_pos (any_iff.mpr h), if_pos h, List.map_map]
    apply List.map_congr_left
    intro p _
    show (if p.1 = c then (p.1, n) else p).1 = p.1
    split <;> rfl
  · rw [if_neg (fun z => h (any_iff.mp z)), if_neg h, List.map_append]
    rfl
theorem putL_nd {L : List (Nat × Int)} {c : Nat} {n : Int} (h : (L.map (·.1)).Nodup) : ((putL L c n).map (·.1)).Nodup := by
  rw [putL_keys]
  split
  · exact h
  · exact nd_snoc h (by assumption)
theorem putL_len {L : List (Nat × Int)} {c : Nat} {n : Int} : (putL L c n).length ≤ L.length + 1 := by
  unfold putL
  split
  · rw [List.length_map]
    omega
  · rw [List.length_append]
    exact Nat.le_refl _
theorem putL_mem {L : List (Nat × Int)} {c : Nat} {n : Int} {p : Nat × Int} (h : p ∈ putL L c n) : p ∈ L ∨ p = (c, n) := by
  unfold putL at h
  split at h
  · obtain ⟨q, hq, e⟩ := List.mem_map.mp h
    by_cases z : q.1 = c
    · rw [if_pos z] at e
      rw [← e, z]
      exact .inr rfl
    · rw [if_neg z] at e
      exact .inl (e ▸ hq)
  · rcases List.mem_append.mp h with z | z
    · exact .inl z
    · exact .inr (List.mem_singleton.mp z)
theorem getL_put (L : List (Nat × Int)) (c j : Nat) (n : Int) : getL (putL L c n) j = if j = c then some n else getL L j := by
  have h := valV_put (LD L) (Sum.inr (sg c)) (Sum.inr (sg j)) (.int n)
  rw [putK_LD, valV_LD, valV_LD] at h
  by_cases e : j = c
  · subst e
    rw [if_pos rfl] at h ⊢
    cases q : getL (putL L j n) j with
    | none => rw [q] at h; cases h
    | some x =>
      rw [q] at h
      have h2 : V.int x = V.int n := Option.some.inj h
      injection h2 with h3
      rw [h3]
  · have h0 : ¬ (Sum.inr (sg j) : Key) = Sum.inr (sg c) := fun z => e (sg_inj (Sum.inr.inj z))
    rw [if_neg h0] at h
    rw [if_neg e]
    cases q : getL (putL L c n) j with
    | none =>
      rw [q] at h
      cases q2 : getL L j with
      | none => rfl
      | some y => rw [q2] at h; cases h
    | some x =>
      rw [q] at h
      cases q2 : getL L j with
      | none => rw [q2] at h; cases h
      | some y =>
        rw [q2] at h
        have h2 : V.int x = V.int y := Option.some.inj h
        injection h2 with h3
        rw [h3]
/-- a dict of lengths at d -/
structure LenAt (H : Hp) (d : Addr) (L : List (Nat × Int)) (B : Nat) : Prop where
  dk : H d = some (.dK (LD L))
  nd : (L.map (·.1)).Nodup
  bd : ∀ p ∈ L, p.2.natAbs < 2 ^ B
  sz : L.length ≤ 100
theorem LenAt.of {H H' : Hp} {d : Addr} {L : List (Nat × Int)} {B : Nat} (h : LenAt H d L B) (e : H' d = some (.dK (LD L))) : LenAt H' d L B := ⟨e, h.nd, h.bd, h.sz⟩
abbrev sLengths : Stmt := top 11
theorem scLengths : FnScope ["_law_source_here", "_law_signs_here", "_law_lengths_here", "_law_char"] ["_law_source_here", "_law_signs_here"] (defScope sLengths) := ⟨rfl, rfl, rfl, by decide +kernel, rfl, by decide +kernel, by decide +kernel⟩
def spLengths : Sp := fun vs H Q _ => ∃ (a c l : Addr) (cs : List Nat), vs = [.ref a, .ref l] ∧ Src H a c ∧ l ≠ a ∧ H l = some (.lst (SgL cs)) ∧ cs.length ≤ 100 ∧
  ∀ (L : List (Nat × Int)) (d : Addr) H', H d = none → LenAt H' d L 200 → (∀ p ∈ L, p.1 ∈ cs) → Kp a H H' → Src H' a c → Q (.ref d) H'
theorem ok_lengths (D : Df K mg "_law_lengths" sLengths ["_law_source_here", "_law_signs_here"]) (D7 : Df K mg "_law_take" sTake ["_law_source_here", "_law_many"]) (G : FnOk P w K mg base CX0 2 D7.f D7.fd ["_law_source_here", "_law_many"] spTake)
    (D10 : Df K mg "_law_number" sNumber ["_law_source_here"]) (GN : FnOk P w K mg base CX0 3 D10.f D10.fd ["_law_source_here"] spNumber) : FnOk P w K mg base CX0 4 D.f D.fd ["_law_source_here", "_law_signs_here"] spLengths := by
  refine D.fn.ok scLengths (fun vs H Q E h => ?_) (fun cdv A outer s H vs Q E hr h => ?_)
  · obtain ⟨a, c, l, cs, rfl, _⟩ := h
    rfl
  · obtain ⟨a, c, l, cs, rfl, hsrc, hla, hL, hlc, k⟩ := h
    have hu := hu_of hr
    refine ⟨_, (pss_cons (ps_set (i := 2) scLengths.nd rfl (.inl rfl) pe_dnewK)
      (pss_cons (ps_for PassesOwn.never rfl (pi_list (pv 1)) (pg_name (i := 3) scLengths.nd rfl (Or.inl rfl))
      (pss_one (ps_if (pt_cmpR op_gt (pe_call G (hr.mono (by decide)) (by rfl) D7.mgf D7.fn.kp D7.bd .nil pass0 (pa_cons (pv 0) (pa_cons pe_int pa_nil))) pe_int (nomark _))
      (pss_one (ps_dput hu (pv 2) (pv 3) (pe_call GN hr (by rfl) D10.mgf D10.fn.kp D10.bd .nil pass0 (pa_cons (pv 0) pa_nil)) rfl))
      pss_nil)))
      (pss_one (ps_ret (pv 2))))), ?_⟩
    intro d nd
    have hda : d ≠ a := fun e => by
      subst e
      obtain ⟨_, _, _, hs, _⟩ := hsrc
      rw [nd] at hs
      cases hs
    have hdc : c ≠ d := fun e => by
      subst e
      obtain ⟨_, _, _, _, _, hs, _⟩ := hsrc
      rw [nd] at hs
      cases hs
    have hlst : ∀ H2, Kp a H H2 → SqL K H2 l (SgL cs) := fun H2 kp => sql_of (kp _ _ hL hla)
    refine ⟨_, rfl, l, rfl, ⟨_, hlst _ (Kp.same (same_upd nd))⟩, for_list (K := K) (a := l) (xs := SgL cs) (fun i σ H2 => ∃ (L : List (Nat × Int)) (x : Option V), σ = [some (.ref a), some (.ref l), some (.ref d), x] ∧ LenAt H2 d L 200 ∧ L.length ≤ i ∧ (∀ p ∈ L, p.1 ∈ cs) ∧ Kp a H H2 ∧ Src H2 a c)
      ⟨[], none, rfl, ⟨upd_same, List.nodup_nil, fun p hp => by simp at hp, Nat.zero_le _⟩, Nat.le_refl _, fun p hp => by simp at hp, Kp.same (same_upd nd), hsrc.of_same (same_upd nd)⟩ (fun i σ H2 _ ⟨_, _, _, _, _, _, kp, _⟩ => hlst H2 kp) ?_ ?_⟩
    · rintro i y σ H2 hi ⟨L, x, rfl, hD, hlen, hin, kp, sr⟩
      obtain ⟨z, hz, rfl⟩ : ∃ z ∈ cs, y = .str (sg z) := by
        have hm := List.mem_of_getElem? hi
        unfold SgL at hm
        obtain ⟨z, hz, e⟩ := List.mem_map.mp hm
        exact ⟨z, hz, e.symm⟩
      have hil : i < cs.length := by
        have := (List.getElem?_eq_some_iff.mp hi).1
        rw [SgL_len] at this
        exact this
      refine ⟨_, rfl, a, c, 3, rfl, sr, by decide, by decide, fun t H3 t0 t1 kp3 sr3 => ⟨_, _, rfl, rfl, _, rfl, ite2 (fun _ => ?_) (fun _ => ?_)⟩⟩
      · refine ⟨_, rfl, a, c, rfl, sr3, fun n H4 hn kp4 sr4 => ?_⟩
        have hd4 : H4 d = some (.dK (LD L)) := kp4 _ _ (kp3 _ _ hD.dk hda) hda
        refine ⟨_, rfl, _, rfl, d, _, rfl, DPut.k (k := Sum.inr (sg z)) hd4 (by rw [LD_len]; exact small1000 (by omega)), putL L z n, _, rfl, ⟨?_, putL_nd hD.nd, fun p hp => ?_, ?_⟩, ?_, ?_, ?_, ?_⟩
        · rw [upd_same, putK_LD]
        · rcases putL_mem hp with q | q
          · exact hD.bd p q
          · rw [q]
            exact hn
        · have := @putL_len L z n
          omega
        · have := @putL_len L z n
          omega
        · intro p hp
          rcases putL_mem hp with q | q
          · exact hin p q
          · rw [q]
            exact hz
        · intro b o e nb
          rw [upd_ne (ne_of_none e nd)]
          exact kp4 _ _ (kp3 _ _ (kp _ _ e nb) nb) nb
        · exact sr4.of_upd hda.symm hdc
      · exact ⟨L, _, rfl, hD.of (kp3 _ _ hD.dk hda), by omega, hin, kp.trans kp3, sr3⟩
    · rintro σ H2 ⟨L, x, rfl, hD, hlen, hin, kp, sr⟩
      exact ⟨_, rfl, k L d H2 nd hD hin kp sr⟩
end
end DO

namespace DO
open PySem PySem.Spec PyProof.Rows L2
section
variable {P : Program} {w : World} {K : PySem.W.Frag} {mg : Str → Option Value} {base : Heap}
/-! ### sorted of texts, any number of them -/
def leT (a b : Str) : Bool := decide (a.cps.toList ≤ b.cps.toList)
def rSortedT (K : PySem.W.Frag) : List V → Hp → VK → Prop := fun vs H Q => ∃ (a : Addr) (xs : List Str), vs = [V.ref a] ∧ SqL K H a (xs.map V.str) ∧ ∀ p : Addr, H p = none → Q (.ref p) (upd H p (.lst ((xs.mergeSort leT).map V.str)))
theorem each_of : ∀ {xs : List Str} {us : List Value}, Vals (xs.map V.str) us → PySem.W.EachIs (fun v x => ∃ t, v = Value.str x t) us xs
  | [], _, .nil => .nil
  | x :: xs, _, .cons r rs => .cons r (each_of rs)
theorem of_each : ∀ {xs : List Str} {us : List Value}, PySem.W.EachIs (fun v x => ∃ t, v = Value.str x t) us xs → Vals (xs.map V.str) us
  | _, _, .nil => .nil
  | _, _, .cons r rs => .cons r (of_each rs)
theorem cr_sortedT {X : Cx} (hu : X.A.units + 2 < cLine) : CallR X (.builtin "sorted") (rSortedT X.K) := by
  intro pins s σ H vs us Q I r h
  obtain ⟨a, xs, rfl, hs, q⟩ := h
  obtain ⟨its, rv, hl, hz⟩ := I.list hs
  rw [Vals.ref1 r]
  have e := each_of rv
  have hlen : xs.length = its.length := by
    have := rv.length
    rw [List.length_map] at this
    exact this
  have hx : xs.length ≤ sizeLine := by rw [List.length_map] at hz; exact hz
  refine PySem.W.sorted_data (enc := fun x : Str => PyData.str x) (bs := xs) hl.isList e (e.mono fun v x ⟨t, ev⟩ => ⟨[], by rw [ev]; exact .str x t⟩) (PySem.W.AllAlike.of fun b b' => rfl) (PySem.W.Sortable.others fun b => ⟨(fun z => nomatch z), (fun xs z => nomatch z)⟩) hx (fun b _ => ?_) fun out h1 h2 => ?_
  · exact hu
  · have ed : PySem.W.dataLe false (fun x : Str => PyData.str x) = leT := by
      rw [PySem.W.dataLe_str (fun x : Str => x)]
      rfl
    rw [ed] at h2
    obtain ⟨ep, he'⟩ := PyProof.Rows.sortedAll_at s.heap its out.toArray
    have hl2 : ((xs.mergeSort leT).map V.str).length ≤ sizeLine := by
      rw [List.length_map, List.length_mergeSort]
      exact hx
    exact ⟨.ref _, upd H (s.heap.objs.size + 1) (.lst ((xs.mergeSort leT).map V.str)), I.laid (t' := s.toks) (fun _ _ => PyProof.Rows.sortedAll_old) (Nat.le_succ _) ⟨hl2, out, ep, of_each h2, he'⟩, rfl, q _ (I.hok.fresh (Nat.le_succ _))⟩
/-- the signs in order -/
def sortN (cs : List Nat) : List Nat := cs.mergeSort fun a b => decide (a ≤ b)
theorem leT_sg (a b : Nat) : leT (sg a) (sg b) = decide (a ≤ b) := by
  show decide ([a] ≤ [b]) = decide (a ≤ b)
  by_cases e : a ≤ b
  · have h : [a] ≤ [b] := by
      rw [← List.not_lt]
      intro z
      rcases List.cons_lt_cons_iff.mp z with q | ⟨_, q⟩
      · omega
      · exact absurd q (List.lt_irrefl _)
    rw [decide_eq_true e]
    exact decide_eq_true h
  · have h : ¬ [a] ≤ [b] := by
      rw [List.not_le]
      exact List.cons_lt_cons_iff.mpr (.inl (by omega))
    rw [decide_eq_false e]
    exact decide_eq_false h
theorem sort_sg (cs : List Nat) : (cs.map sg).mergeSort leT = (sortN cs).map sg := by
  unfold sortN
  exact (List.map_mergeSort (r := fun a b => decide (a ≤ b)) (s := leT) fun a _ b _ => (leT_sg a b).symm).symm
theorem sortN_len (cs : List Nat) : (sortN cs).length = cs.length := List.length_mergeSort _
theorem sortN_perm (cs : List Nat) : (sortN cs).Perm cs := List.mergeSort_perm _ _
theorem sortN_srt (cs : List Nat) : (sortN cs).Pairwise (· ≤ ·) := by
  have h := List.pairwise_mergeSort (le := fun a b : Nat => decide (a ≤ b)) (fun a b c h1 h2 => by simp at h1 h2 ⊢; omega) (fun a b => by simp; omega) cs
  exact h.imp fun {a b} z => of_decide_eq_true z
end
end DO

namespace DO
open PySem PySem.Spec PyProof.Rows L2
/-! ### operators that an own class defines -/
/-- a method of the text -/
structure Mf (K : PySem.W.Frag) (C : Addr) (x qual : Str) (st : Stmt) (ps : List Str) where
  f : Addr
  fd : FuncData
  me : Meth K C x f
  fn : Fun K x qual st f fd
  bd : Binds K fd ps []
theorem fnIn_of {K : PySem.W.Frag} {x qual : Str} {st : Stmt} {f : Addr} {fd : FuncData} (F : Fun K x qual st f fd) : PySem.W.fnIn K f = true := by
  obtain ⟨oc, od, kV, doc, pm, an, cdv, ct, osl, e, lk, _⟩ := F.ex
  unfold PySem.W.fnIn
  rw [lk]
section
variable {X : Cx} {CX : CXT} {k : Nat} {C f : Addr} {fd : FuncData} {ps : List Str} {sp : Sp} {E : XK} {pins : List (Addr × Obj)} {σ : L2.St} {H : Hp} {s : Shared}
theorem inst_of {a dx : Addr} {fs : List (Str × V)} (I : L2.Inv X pins σ H s) (ha : H a = some (.ins C dx fs)) : ∃ ox od, PySem.W.InstAt s.heap a ox C (some od) := by
  obtain ⟨mA, J, _⟩ := ins_get I.hok ha
  obtain ⟨od, J, _⟩ := J.look
  exact ⟨_, od, J⟩
theorem run_in1 {Q : VK} {us : List Value} {vs : List V} (F : FnOk X.prog X.w X.K X.mg X.base CX k f fd ps sp) (hr : Room k X.A.in1) (hb : Binds X.K fd ps []) (hx : Passes CX X E)
    (I : L2.Inv X pins σ H s) (r : Vals vs us) (h : sp vs H Q E) : wpAny (model X.prog X.w) X.A.in1 (call (.ref f) us) (EP X pins σ Q) X.xe s := by
  have hl := F.len _ _ _ _ h
  rw [r.length] at hl
  refine wpAny_call (codeAny_mono (F.run X.A.in1 X.stack s H ⟨us, []⟩ us vs Q E hr I.env0.in1 (by
    have z := hb s us I.kIn (by rw [List.append_nil]; exact hl)
    rw [List.append_nil] at z
    exact z) r h) fun r s' hq => ?_)
  cases r with
  | error e => exact hx pins σ H s e s' I hq
  | ok fl =>
    cases fl with
    | ret u => exact I.after hq
    | next => exact False.elim hq
    | brk => exact False.elim hq
    | cont => exact False.elim hq
/-- x in o -/
def rInO (C : Addr) (sp : Sp) (E : XK) : R2 := fun x y H Q => ∃ a dx fs, y = .ref a ∧ H a = some (.ins C dx fs) ∧ sp [y, x] H (fun v H' => ∃ b : Bool, v = .bl b ∧ Q (.bl b) H') E
theorem op_inO (M : Meth X.K C "__contains__" f) (F : FnOk X.prog X.w X.K X.mg X.base CX k f fd ps sp) (hr : Room k X.A) (hb : Binds X.K fd ps []) (hx : Passes CX X E) : OpR X (compareOp .In) (rInO C sp E) := by
  intro pins s σ H x y v u Q I rx ry h
  obtain ⟨a, dx, fs, rfl, ha, q⟩ := h
  obtain rfl : u = Value.ref a := ry
  obtain ⟨ox, od, J⟩ := inst_of I ha
  obtain ⟨m, hF⟩ := I.fr
  refine PySem.W.in_K hF I.ok.mod.kin J M.at_ M.fn (wpAny_mono (run_fn (us := [.ref a, v]) (vs := [.ref a, x]) F hr hb .nil hx I (.cons rfl (.cons rx .nil)) q) (fun r s' z => ?_) fun _ _ x => x)
  obtain ⟨v', H', I', rz, b, rfl, q'⟩ := z
  cases rz
  exact wpAny_truthy_bool ⟨.bl b, H', I', rfl, q'⟩
/-- o[i] -/
def rSubO (C : Addr) (sp : Sp) (E : XK) : R2 := fun x y H Q => ∃ a dx fs, x = .ref a ∧ H a = some (.ins C dx fs) ∧ sp [x, y] H Q E
theorem pe_subO {a b : Expr} {ta tb : TE} {pos : Pos} {qual : Str} {st : Stmt} (M : Meth X.K C "__getitem__" f) (Fn : Fun X.K "__getitem__" qual st f fd) (F : FnOk X.prog X.w X.K X.mg X.base CX k f fd ps sp) (hr : Room (k + 1) X.A) (hb : Binds X.K fd ps []) (hx : Passes CX X E)
    (ha : PE X a ta) (hb' : PE X b tb) (hs : ∀ o i, subscripted b true o i = runValue (.builtin "lifetime.subscript" ⟨[o, i], []⟩) := by intro _ _; rfl) : PE X (.Subscript a b pos) (tOp (rSubO C sp E) ta tb) := by
  refine ⟨fun pins s σ H Q I h => ?_⟩
  refine Subscript_ (binT ha hb' I h fun v u s2 x y H2 I2 rx ry q => ?_)
  obtain ⟨p, dx, fs, rfl, hp, q⟩ := q
  obtain rfl : v = Value.ref p := rx
  obtain ⟨ox, od, J⟩ := inst_of I2 hp
  obtain ⟨m, hF⟩ := I2.fr
  exact PySem.W.sub_K hF I2.ok.mod.kin J M.at_ (fnIn_of Fn) M.fn (run_in1 (us := [.ref p, u]) (vs := [.ref p, y]) F hr.in1 hb hx I2 (.cons rfl (.cons ry .nil)) q) (hs _ _)
/-- o + o' and its like, both of the class -/
def rBinO (C : Addr) (sp : Sp) (E : XK) : R2 := fun x y H Q => ∃ a dx fs b dy gs, x = .ref a ∧ y = .ref b ∧ H a = some (.ins C dx fs) ∧ H b = some (.ins C dy gs) ∧ sp [x, y] H Q E
theorem op_binO {op : Operator} {nm : Str} (hn : PySem.dunder op.info.2 = nm) (M : Meth X.K C nm f) (hc : PySem.W.selfFirst X.K C = true) (F : FnOk X.prog X.w X.K X.mg X.base CX k f fd ps sp) (hr : Room k X.A) (hb : Binds X.K fd ps []) (hx : Passes CX X E) : OpR X (binaryOp op) (rBinO C sp E) := by
  intro pins s σ H x y v u Q I rx ry h
  obtain ⟨a, dx, fs, b, dy, gs, rfl, rfl, ha, hb', q⟩ := h
  obtain rfl : v = Value.ref a := rx
  obtain rfl : u = Value.ref b := ry
  obtain ⟨ox, od, J⟩ := inst_of I ha
  obtain ⟨oy, od', J'⟩ := inst_of I hb'
  obtain ⟨m, hF⟩ := I.fr
  subst hn
  refine PySem.W.binop_K hF I.ok.mod.kin J J'.type hc M.at_ M.fn (wpAny_mono (run_fn (us := [.ref a, .ref b]) (vs := [.ref a, .ref b]) F hr hb .nil hx I (.cons rfl (.cons rfl .nil)) q) (fun r s' z => ?_) fun _ _ x => x)
  obtain ⟨v', H', I', rz, q'⟩ := z
  exact SlX.cmpback rz ⟨v', H', I', rz, q'⟩
/-- o * n -/
def rBinI (C : Addr) (sp : Sp) (E : XK) : R2 := fun x y H Q => ∃ a dx fs, ∃ n : Int, x = .ref a ∧ y = .int n ∧ H a = some (.ins C dx fs) ∧ sp [x, y] H Q E
theorem op_binI {op : Operator} {nm nr : Str} {fo ro rc : Option Value} (hn : PySem.dunder op.info.2 = nm) (hn' : dunderR op.info.2 = nr) (M : Meth X.K C nm f) (hc : PySem.W.selfFirst X.K C = true)
    (hrr : PySem.W.findIn X.K (.ref C) nr = some rc) (hp : rc = none ∨ ∃ g : Addr, rc = some (.ref g)) (h1 : PySem.W.findIn X.K (.type "int") nm = some fo) (h2 : PySem.W.findIn X.K (.type "int") nr = some ro) (hsub : PySem.W.subIn X.K (.type "int") (.ref C) = some false)
    (F : FnOk X.prog X.w X.K X.mg X.base CX k f fd ps sp) (hr : Room k X.A) (hb : Binds X.K fd ps []) (hx : Passes CX X E) : OpR X (binaryOp op) (rBinI C sp E) := by
  intro pins s σ H x y v u Q I rx ry h
  obtain ⟨a, dx, fs, n, rfl, rfl, ha, q⟩ := h
  obtain rfl : v = Value.ref a := rx
  obtain ⟨t, rfl⟩ := ry
  obtain ⟨ox, od, J⟩ := inst_of I ha
  obtain ⟨m, hF⟩ := I.fr
  subst hn
  subst hn'
  refine PySem.W.ksp_binT hF I.ok.mod.kin J (T := "int") rfl hc M.at_ M.fn hrr hp h1 h2 hsub (wpAny_mono (run_fn (us := [.ref a, .int n t]) (vs := [.ref a, .int n]) F hr hb .nil hx I (.cons rfl (.cons ⟨t, rfl⟩ .nil)) q) (fun r s' z => ?_) fun _ _ x => x)
  obtain ⟨v', H', I', rz, q'⟩ := z
  exact SlX.cmpback rz ⟨v', H', I', rz, q'⟩
/-- o == y: y an instance of the class, or of a built-in type that is told -/
inductive TyB (H : Hp) : V → String → Prop where
  | non : TyB H .non "NoneType"
  | int (i : Int) : TyB H (.int i) "int"
  | str (x : Str) : TyB H (.str x) "str"
  | lst {a : Addr} {xs : List V} (e : H a = some (.lst xs)) : TyB H (.ref a) "list"
  | dK {a : Addr} {kvs : List (Key × V)} (e : H a = some (.dK kvs)) : TyB H (.ref a) "dict"
theorem tyB_looks {x : V} {u : Value} {T : String} (I : L2.Inv X pins σ H s) (rx : RelV x u) (h : TyB H x T) : s.TypeIs u T := by
  cases h with
  | non => cases rx; exact rfl
  | int i => obtain ⟨t, rfl⟩ := rx; exact rfl
  | str x => obtain ⟨t, rfl⟩ := rx; exact rfl
  | lst e =>
    cases rx
    obtain ⟨_, its, n, _, e'⟩ := I.hok _ _ e
    exact ⟨_, e', rfl⟩
  | dK e =>
    cases rx
    obtain ⟨_, _, vs, _, o, es, ep, e', c, _⟩ := I.hok _ _ e
    exact ⟨o, e', c.1⟩
end
end DO

namespace DO
open PySem PySem.Spec PyProof.Rows L2
open AutoSeq1 (wpAny_loadPart')
section
variable {prog : Program} {w : World} {A : Around} {R : Result → Shared → Prop} {E : Value → Shared → Prop} {s : Shared} {a l C : Addr} {dd : Option Addr} {dt : Data} {sl : Array (Option Value)} {Q : Value → Shared → Prop}
/-! ### the built-in == that declines an own instance -/
theorem dec_list {ol : Obj} (hl : s.heap.get? l = some ol) (hc : ol.cls = .type "list") (ha : s.heap.get? a = some { cls := .ref C, dict := dd, data := dt, slots := sl }) (L : PySem.W.Looks (model prog w) s.heap (isSubtype (.ref C) (.type "list")) false)
    (h : Q .notImplemented s) : wpAny (model prog w) A (call (.builtin "list.__eq__") [.ref l, .ref a]) Q E s := by
  refine GQ.call_here F.slot_list_eq ⟨_, hl, hc⟩ F.entry_list_eq (F.args_list_eq_2 _ _) ?_
  obtain ⟨hp, g, d, tk, os⟩ := s
  wp_walk using wpAny_loadPart' ha
  refine L.at ?_
  wp_walk
  exact h
theorem dec_dict {ol : Obj} (hl : s.heap.get? l = some ol) (hc : ol.cls = .type "dict") (ha : s.heap.get? a = some { cls := .ref C, dict := dd, data := dt, slots := sl }) (L : PySem.W.Looks (model prog w) s.heap (isSubtype (.ref C) (.type "dict")) false)
    (h : Q .notImplemented s) : wpAny (model prog w) A (call (.builtin "dict.__eq__") [.ref l, .ref a]) Q E s := by
  refine GQ.call_here F.slot_dict_eq ⟨_, hl, hc⟩ F.entry_dict_eq (F.args_dict_eq_2 _ _) ?_
  obtain ⟨hp, g, d, tk, os⟩ := s
  obtain ⟨cls, dd', dt', sl'⟩ := ol
  obtain rfl : cls = Value.type "dict" := hc
  have f1 : isSubtype (.type "dict") (.type "collections.OrderedDict") = pure false := by rw [isSubtype_type]; kernel_rfl
  wp_walk using wpAny_loadPart' hl, wpAny_loadPart' ha
  refine L.at ?_
  wp_walk
  exact h
theorem dec_str {x : Str} {t : Tok} (ha : s.heap.get? a = some { cls := .ref C, dict := dd, data := .plain, slots := sl }) (h : Q .notImplemented s) : wpAny (model prog w) A (call (.builtin "str.__eq__") [.str x t, .ref a]) Q E s := by
  refine GQ.call_here F.slot_str_eq (show s.TypeIs (.str x t) "str" from rfl) F.entry_str_eq (F.args_str_eq_2 _ _) ?_
  obtain ⟨hp, g, d, tk, os⟩ := s
  wp_walk using wpAny_loadPart' ha, wpAny_load ha
  exact h
theorem dec_int {x : Int} {t : Tok} (ha : s.heap.get? a = some { cls := .ref C, dict := dd, data := .plain, slots := sl }) (h : Q .notImplemented s) : wpAny (model prog w) A (call (.builtin "int.__eq__") [.int x t, .ref a]) Q E s := by
  refine GQ.call_here F.slot_int_eq (show s.TypeIs (.int x t) "int" from rfl) F.entry_int_eq (F.args_int_eq_2 _ _) ?_
  obtain ⟨hp, g, d, tk, os⟩ := s
  wp_walk using wpAny_loadPart' ha, wpAny_load ha
  exact h
theorem dec_none (h : Q .notImplemented s) : wpAny (model prog w) A (call (.builtin "NoneType.__eq__") [.none, .ref a]) Q E s := by
  refine GQ.call_here F.slot_NoneType_eq (show s.TypeIs .none "NoneType" from rfl) F.entry_NoneType_eq (F.args_NoneType_eq_2 _ _) ?_
  obtain ⟨hp, g, d, tk, os⟩ := s
  wp_walk
  exact h
/-- y == o, y of a built-in type whose own == declines -/
theorem rc_back {K : PySem.W.Frag} {u : Value} {T id : String} {f : Addr} {ox : Obj} {od : Option Obj} (X : K.In s.heap) (hu : A.units < cLine) (ht : s.TypeIs u T) (slot : Slot T (cmpInfo .Eq).2.1 id)
    (dec : ∀ Q' : Value → Shared → Prop, Q' .notImplemented s → wpAny (model prog w) A (call (.builtin id) [u, .ref a]) Q' E s) (J : PySem.W.InstAt s.heap a ox C od) (hsub : PySem.W.subIn K (.ref C) (.type T) = some false)
    (hs : PySem.W.findIn K (.ref C) (cmpInfo .Eq).2.2 = some (some (.ref f))) (hf : PySem.W.isFn K (.ref f) = true) (h : wpAny (model prog w) A (call (.ref f) [.ref a, u]) (PySem.W.CmpBack Q) E s) :
    wpAny (model prog w) A (richCompare .Eq u (.ref a)) Q E s := by
  have one : wpAny (model prog w) A (tryCompare (.ref a) (cmpInfo .Eq).2.2 u) (fun r s' => ∃ v, r = some v ∧ Q v s') E s := by
    unfold tryCompare
    refine wpAny_bind (PySem.W.ifBound_K X J hs hf (wpAny_mono h (fun v s' hv => ?_) fun _ _ e => e))
    cases v <;> first | exact hv.elim | exact wpAny_pure ⟨_, rfl, hv⟩
  unfold richCompare
  simp only [ht.oneThing_none]
  refine wpAny_holding (wpAny_bind (wpAny_cRoomFor hu ?_))
  refine wpAny_bind (wpAny_typeOf ht (wpAny_bind (J.type.here ?_)))
  have hne : (Value.type T != Value.ref C) = true := by simp
  simp only [hne, if_true]
  refine wpAny_bind ((PySem.W.looks_subIn X hsub).here ?_)
  simp only [Bool.false_eq_true, if_false]
  refine wpAny_bind (m := tryCompare u _ (.ref a)) (wpAny_tryCompare_declines ht slot (dec _ ⟨rfl, ?_⟩))
  simp only [Bool.not_false, if_true]
  refine wpAny_bind (wpAny_mono one (fun r s' z => ?_) fun _ _ e => e)
  obtain ⟨v, rfl, hq⟩ := z
  exact wpAny_pure hq
end
section
variable {X : Cx} {CX : CXT} {k : Nat} {C f : Addr} {fd : FuncData} {ps : List Str} {sp : Sp} {E : XK} {pins : List (Addr × Obj)} {σ : L2.St} {H : Hp} {s : Shared}
theorem ty_at {M : Model} {h : Heap} {a : Addr} {o : Obj} {T : String} (e : h.get? a = some o) (c : o.cls = .type T) : PySem.W.Looks M h (typeOf (.ref a)) (.type T) :=
  fun A Q E s k q => wpAny_typeOf (show s.TypeIs (.ref a) T from ⟨o, k _ _ e, c⟩) q
theorem tyB_lk {M : Model} {x : V} {u : Value} {T : String} (I : L2.Inv X pins σ H s) (rx : RelV x u) (h : TyB H x T) : PySem.W.Looks M s.heap (typeOf u) (.type T) := by
  cases h with
  | non => cases rx; exact PySem.W.Looks.of_pure rfl
  | int i => obtain ⟨t, rfl⟩ := rx; exact PySem.W.Looks.of_pure rfl
  | str x => obtain ⟨t, rfl⟩ := rx; exact PySem.W.Looks.of_pure rfl
  | lst e =>
    cases rx
    obtain ⟨_, its, n, _, e'⟩ := I.hok _ _ e
    exact ty_at e' rfl
  | dK e =>
    cases rx
    obtain ⟨_, _, vs, _, o, es, ep, e', c, _⟩ := I.hok _ _ e
    exact ty_at e' c.1
/-- o == y -/
def rEqO (K : PySem.W.Frag) (C : Addr) (sp : Sp) (E : XK) : R2 := fun x y H Q => ∃ a dx fs, x = .ref a ∧ H a = some (.ins C dx fs) ∧ ((∃ b dy gs, y = .ref b ∧ H b = some (.ins C dy gs)) ∨ ∃ T, TyB H y T ∧ PySem.W.notFirst K C (.type T) = true) ∧ sp [x, y] H Q E
theorem op_eqO (M : Meth X.K C "__eq__" f) (F : FnOk X.prog X.w X.K X.mg X.base CX k f fd ps sp) (hr : Room k X.A) (hb : Binds X.K fd ps []) (hx : Passes CX X E) : OpR X (compareOp .Eq) (rEqO X.K C sp E) := by
  intro pins s σ H x y v u Q I rx ry h
  obtain ⟨a, dx, fs, rfl, ha, hy, q⟩ := h
  obtain rfl : v = Value.ref a := rx
  obtain ⟨ox, od, J⟩ := inst_of I ha
  obtain ⟨m, hF⟩ := I.fr
  have hc : wpAny (model X.prog X.w) X.A (call (.ref f) [.ref a, u]) (PySem.W.CmpBack (EP X pins σ Q)) X.xe s :=
    wpAny_mono (run_fn (us := [.ref a, u]) (vs := [.ref a, y]) F hr hb .nil hx I (.cons rfl (.cons ry .nil)) q) (fun r s' z => by
      obtain ⟨v', H', I', rz, q'⟩ := z
      exact SlX.cmpback rz ⟨v', H', I', rz, q'⟩) fun _ _ x => x
  show wpAny (model X.prog X.w) X.A (richCompare .Eq (.ref a) u) (EP X pins σ Q) X.xe s
  rcases hy with ⟨b, dy, gs, rfl, hb'⟩ | ⟨T, ty, hn⟩
  · obtain rfl : u = Value.ref b := ry
    obtain ⟨oy, od', J'⟩ := inst_of I hb'
    exact PySem.W.cmp_K (op := .Eq) (tb := .ref C) hr.units0 hF I.ok.mod.kin J J'.type (by simp [PySem.W.notFirst]) M.at_ M.fn hc
  · exact PySem.W.cmp_K (op := .Eq) (tb := .type T) hr.units0 hF I.ok.mod.kin J (tyB_lk I ry ty) hn M.at_ M.fn hc
/-- y == o, y of a built-in type -/
def rEqB (K : PySem.W.Frag) (C : Addr) (sp : Sp) (E : XK) : R2 := fun x y H Q => ∃ a dx fs T, y = .ref a ∧ H a = some (.ins C dx fs) ∧ TyB H x T ∧ PySem.W.subIn K (.ref C) (.type T) = some false ∧ sp [y, x] H Q E
theorem op_eqB (M : Meth X.K C "__eq__" f) (F : FnOk X.prog X.w X.K X.mg X.base CX k f fd ps sp) (hr : Room k X.A) (hb : Binds X.K fd ps []) (hx : Passes CX X E) : OpR X (compareOp .Eq) (rEqB X.K C sp E) := by
  intro pins s σ H x y v u Q I rx ry h
  obtain ⟨a, dx, fs, T, rfl, ha, ty, hsub, q⟩ := h
  obtain rfl : u = Value.ref a := ry
  obtain ⟨ox, od, J⟩ := inst_of I ha
  have hc : wpAny (model X.prog X.w) X.A (call (.ref f) [.ref a, v]) (PySem.W.CmpBack (EP X pins σ Q)) X.xe s :=
    wpAny_mono (run_fn (us := [.ref a, v]) (vs := [.ref a, x]) F hr hb .nil hx I (.cons rfl (.cons rx .nil)) q) (fun r s' z => by
      obtain ⟨v', H', I', rz, q'⟩ := z
      exact SlX.cmpback rz ⟨v', H', I', rz, q'⟩) fun _ _ x => x
  have hob : ∃ dd sl, s.heap.get? a = some { cls := .ref C, dict := dd, data := .plain, slots := sl } := by
    obtain ⟨_, _, _, e, _⟩ := I.hok _ _ ha
    exact ⟨_, _, e⟩
  obtain ⟨dd, sl, hob⟩ := hob
  have X₀ : X.K.In s.heap := I.kIn
  show wpAny (model X.prog X.w) X.A (richCompare .Eq v (.ref a)) (EP X pins σ Q) X.xe s
  have tt := tyB_looks I rx ty
  cases ty with
  | non => cases rx; exact rc_back X₀ hr.units0 tt PySem.F.slot_NoneType_eq (fun Q' h' => dec_none h') J hsub M.at_ M.fn hc
  | int i => obtain ⟨t, rfl⟩ := rx; exact rc_back X₀ hr.units0 tt PySem.F.slot_int_eq (fun Q' h' => dec_int hob h') J hsub M.at_ M.fn hc
  | str x => obtain ⟨t, rfl⟩ := rx; exact rc_back X₀ hr.units0 tt PySem.F.slot_str_eq (fun Q' h' => dec_str hob h') J hsub M.at_ M.fn hc
  | lst e =>
    cases rx
    obtain ⟨_, its, n, _, e'⟩ := I.hok _ _ e
    exact rc_back X₀ hr.units0 tt PySem.F.slot_list_eq (fun Q' h' => dec_list e' rfl hob (PySem.W.looks_subIn X₀ hsub) h') J hsub M.at_ M.fn hc
  | dK e =>
    cases rx
    obtain ⟨_, _, vs, _, o, es, ep, e', c, _⟩ := I.hok _ _ e
    exact rc_back X₀ hr.units0 tt PySem.F.slot_dict_eq (fun Q' h' => dec_dict e' c.1 hob (PySem.W.looks_subIn X₀ hsub) h') J hsub M.at_ M.fn hc
end
end DO

namespace DO
open PySem PySem.Spec PyProof.Rows L2
open AutoSeq1 (wpAny_loadPart')
section
variable {prog : Program} {w : World} {A : Around} {E : Value → Shared → Prop} {s : Shared} {a C : Addr} {dd : Option Addr} {sl : Array (Option Value)}
theorem dec_mul {Q : Value → Shared → Prop} {x : Int} {t : Tok} (ha : s.heap.get? a = some { cls := .ref C, dict := dd, data := .plain, slots := sl }) (h : Q .notImplemented s) : wpAny (model prog w) A (call (.builtin "int.__mul__") [.int x t, .ref a]) Q E s := by
  have h1 : s.TypeIs (.int x t) "int" := rfl
  have h2 := PySem.F.entry_int_mul
  have h3 := PySem.F.args_int_mul_2 (.int x t) (.ref a)
  have h4 := @PySem.F.slot_int_mul
  refine GQ.call_here (name := PySem.dunder "mul") h4 h1 h2 h3 ?_
  obtain ⟨hp, g, d, tk, os⟩ := s
  wp_walk using wpAny_loadPart' ha, wpAny_load ha
  exact h
open PySem.W in
theorem mul_back {K : Frag} {h₀ : Heap} {L f g : Addr} {m : Str → Option Value} {n : Int} {t : Tok} {ox : Obj} {od : Option Obj} {fo ro : Option Value} {Q : Value → Shared → Prop} (F : Fr h₀ L s.heap m) (X₀ : K.In h₀) (I : InstAt s.heap a ox C od) (hc : selfFirst K C = true)
    (ha : s.heap.get? a = some { cls := .ref C, dict := dd, data := .plain, slots := sl })
    (hs : findIn K (.ref C) (PySem.dunder "mul") = some (some (.ref g))) (hr : findIn K (.ref C) (dunderR "mul") = some (some (.ref f))) (hf : isFn K (.ref f) = true)
    (h1 : findIn K (.type "int") (PySem.dunder "mul") = some fo) (h2 : findIn K (.type "int") (dunderR "mul") = some ro) (hb : ((fo.isSome && !isSeqSlot fo) || (ro.isSome && !isSeqSlot ro)) = true) (hsub : subIn K (.ref C) (.type "int") = some false)
    (h : wpAny (model prog w) A (call (.ref f) [.ref a, .int n t]) (PySem.W.CmpBack Q) E s) : wpAny (model prog w) A (binaryOp .Mult (.int n t) (.ref a)) Q E s := by
  have X := X₀.keeps F.keep
  obtain ⟨cd, rest, hcd, hm⟩ := ksp_first hc
  have one := ksp_try X I hr hf h
  have dec : wpAny (model prog w) A (tryMethod (.int n t) (PySem.dunder "mul") (.ref a)) (fun r s' => r = none ∧ s' = s) E s := by
    unfold tryMethod
    have h1 : s.TypeIs (.int n t) "int" := rfl
    have h4 := @PySem.F.slot_int_mul
    refine wpAny_bind (wpAny_callSpecial?_slot (name := PySem.dunder "mul") h1 h4 (dec_mul ha ?_))
    exact wpAny_pure ⟨rfl, rfl⟩
  obtain ⟨hh, g', d, tt, os⟩ := s
  have L1 : Looks (model prog w) hh (typeOf (.ref a)) (.ref C) := I.type
  have L2 : Looks (model prog w) hh (typeOf (.int n t)) (.type "int") := Looks.of_pure rfl
  have L3 : Looks (model prog w) hh (fillsNumberSlot (.ref C) "mul") true := fills_K X hcd hm hs
  have L4 : Looks (model prog w) hh (fillsNumberSlot (.type "int") "mul") true := by
    have z := ksp_fillsT (M := model prog w) X h1 h2
    rw [hb] at z
    exact z
  have L5 : Looks (model prog w) hh (isSubtype (.ref C) (.type "int")) false := looks_subIn X hsub
  have L7 : Looks (model prog w) hh (numberSlotInPython (.type "int") "mul") false := Looks.of_pure rfl
  have hne : (Value.type "int" == Value.ref C) = false := Bool.eq_false_iff.mpr fun q => by cases beq_iff_eq.mp q
  show wpAny _ _ (holding _ _) _ _ _
  refine wpAny_holding (wpAny_bind ?_)
  show wpAny _ _ (binaryOp1 "mul" (.int n t) (.ref a)) _ _ _
  unfold binaryOp1
  refine wpAny_bind (L2.at (wpAny_bind (L1.at (wpAny_bind (L4.at ?_)))))
  simp only [hne, Bool.false_eq_true, if_false]
  refine wpAny_bind (L3.at ?_)
  simp only [if_true, Bool.and_self]
  refine wpAny_bind (L5.at ?_)
  simp only [Bool.false_eq_true, if_false, Bool.not_false, Bool.and_self, if_true]
  refine wpAny_bind (L7.at ?_)
  simp only [Bool.false_eq_true, if_false]
  refine wpAny_bind (wpAny_mono dec (fun r s' z => ?_) fun _ _ e => e)
  obtain ⟨rfl, rfl⟩ := z
  dsimp only
  refine wpAny_bind (wpAny_mono one (fun r s' z => ?_) fun _ _ e => e)
  obtain ⟨v, rfl, hq⟩ := z
  exact wpAny_bind (wpAny_rule (wpAny_pure (wpAny_pure hq)))
end
end DO

namespace DO
open PySem PySem.Spec PyProof.Rows L2
/-! ### an iterator over a text -/
/-- the iterator at p over x, i signs taken -/
def SitO (p : Addr) (x : Str) (i : Nat) : HO := .ext fun h => ∃ t ty, (ty = "str_ascii_iterator" ∨ ty = "str_iterator") ∧ h.IsStrIter p ty x t i
theorem sit_ok {P : Program} {w : World} {H : Hp} {h : Heap} {p : Addr} {x : Str} {i : Nat} {t : Tok} {ty : String} (e : ty = "str_ascii_iterator" ∨ ty = "str_iterator") (st : h.IsStrIter p ty x t i) : ObjOk P w H h p (SitO p x i) :=
  ⟨⟨t, ty, e, st⟩, (let ⟨o, ho, _⟩ := st; ⟨o, ho⟩), fun h1 h2 ⟨t, ty, e, o, ho, r⟩ k => ⟨t, ty, e, o, k _ ho, r⟩⟩
section
variable {prog : Program} {w : World} {A : Around} {E : Value → Shared → Prop} {s : Shared}
theorem call_iterT {x : Str} {t : Tok} {Q : Value → Shared → Prop} (h : ∀ (o : Obj) ty, (ty = "str_ascii_iterator" ∨ ty = "str_iterator") → (s.heap.push o).IsStrIter s.heap.objs.size ty x t 0 → Q (.ref s.heap.objs.size) { s with heap := s.heap.push o }) :
    wpAny (model prog w) A (call (.builtin "iter") [.str x t]) Q E s := by
  refine Calls.call_function_entry (by decide +kernel) (by decide +kernel) PySem.W.kdk_entry_iter (PySem.W.kdk_args_iter _) ?_
  unfold Builtin.«iter»
  refine wpAny_bind (m := someArgs "iter" 1 2 _) (wpAny_of_eq (a := [Value.str x t]) (by first | rfl | kernel_rfl!) ?_)
  show wpAny _ _ (pyIter (.str x t) >>= _) _ _ _
  cases ha : x.cps.all (· < 128)
  · exact wpAny_bind (wpAny_pyIter_wide ha (wpAny_pure ⟨_, rfl, h _ "str_iterator" (.inr rfl) ⟨_, Heap.get?_push_size _ rfl, rfl, rfl⟩⟩))
  · exact wpAny_bind (wpAny_pyIter_ascii ha (wpAny_pure ⟨_, rfl, h _ "str_ascii_iterator" (.inl rfl) ⟨_, Heap.get?_push_size _ rfl, rfl, rfl⟩⟩))
end
section
variable {X : Cx} {CX : CXT} {k : Nat} {C f : Addr} {fd : FuncData} {ps : List Str} {sp : Sp} {E : XK} {pins : List (Addr × Obj)} {σ : L2.St} {H : Hp} {s : Shared}
/-- iter(x), x a text -/
def rIterT (n : Nat) : List V → Hp → VK → Prop := fun xs H Q => ∃ x : Str, xs = [.str x] ∧ ∀ p, H p = none → n ≤ p → Q (.ref p) (upd H p (SitO p x 0))
theorem cr_iterT : CallR X (.builtin "iter") (rIterT X.s_0.heap.objs.size) := by
  intro pins s σ H xs us Q I r h
  obtain ⟨x, rfl, q⟩ := h
  obtain ⟨u, rfl, t, rfl⟩ := vals1 r
  refine call_iterT fun o ty e st => ?_
  exact ⟨.ref s.heap.objs.size, _, I.laid (t' := s.toks) (fun b u e => Heap.get?_push_of_some _ e) (Nat.le_refl _) (sit_ok e st), rfl, q _ (I.hok.fresh (Nat.le_refl _)) I.sz⟩
/-- a def whose promise knows how large the heap was at the call -/
structure FnN (P : Program) (w : World) (K : PySem.W.Frag) (mg : Str → Option Value) (base : Heap) (CX : CXT) (k : Nat) (f : Addr) (fd : FuncData) (ps : List Str) (sp : Nat → Sp) : Prop where
  len : ∀ n vs H Q E, sp n vs H Q E → vs.length = ps.length
  run : ∀ (A : Around) (outer : List Env) (s : Shared) (H : Hp) (args : Args) (us : List Value) (vs : List V) (Q : VK) (E : XK), Room k A → Env0 P w K mg base A outer s H → BindsTo s fd args (ps.zip us) → Vals vs us → sp s.heap.objs.size vs H Q E →
    codeAny (model P w) A (.call (.ref f) args) (CR CX outer P w H s Q E) s
theorem fnN_of {P : Program} {w : World} {K : PySem.W.Frag} {mg : Str → Option Value} {base : Heap} {N : List Str} {x qual : Str} {st : Stmt} {sp : Nat → Sp} (F : Fun K x qual st f fd) (S : FnScope N ps (defScope st)) (len : ∀ n vs H Q E, sp n vs H Q E → vs.length = ps.length)
    (hb : ∀ (cdv : Value) (A : Around) (outer : List Env) (s : Shared) (H : Hp) (vs : List V) (Q : VK) (E : XK), Room k (A.deeper (envOfC qual (defScope st) s.heap.objs.size f cdv)) → sp s.heap.objs.size vs H Q E →
      ∃ t, PSs (cxOf CX P w K mg base N qual (defScope st) f cdv A outer s H E).nox (defBody st) t ∧ t { nx := fun _ H' => Q .non H', rt := Q } (L2.start N vs) H) : FnN P w K mg base CX (k + 1) f fd ps sp := by
  obtain ⟨oc, od, kV, doc, pm, an, cdv, ct, osl, rfl, lk, hcd⟩ := F.ex
  refine ⟨len, fun A outer s H args us vs Q E room e0 bt rv hq => ?_⟩
  have l0 := len _ _ _ _ _ hq
  have inK : K.In s.heap := e0.mod.kin.keeps fun b o z => (e0.bs b o z).1
  have noLim : s.heap.NoLimit := e0.mod.nolimit.keeps fun b o z => (e0.bs b o z).1
  have kinds : ∀ y ∈ ps.zip us, (defScope st).names.lookup y.1 = some .local ∨ ((defScope st).names.lookup y.1 = some .cell ∧ ((cellsFrom (s.heap.objs.size + 1) (defScope st).names []).lookup y.1).isSome = true) := by
    rintro ⟨n, v⟩ hy
    exact (S.par n (List.of_mem_zip hy).1).imp id fun q => ⟨q, PySem.W.cellsFrom_some _ _ _ (.inl q)⟩
  refine codeAny_call_function room.depth (inK _ _ lk) rfl S.co S.gen rfl (PySem.W.codeRec_of inK hcd) (bt _ _ _ _ (wpAny_newFunctionEnv_cells S.kind kinds fun env he s1 x1 => ?_))
  subst he
  refine ⟨noLim.keeps x1.toInCall.keep, codeAny_func ?_⟩
  obtain ⟨t, ht0, ht1⟩ := hb cdv A outer s H vs Q E (room.deeper _) hq
  have I0 : L2.Inv (cxOf CX P w K mg base N qual (defScope st) f cdv A outer s H E) [] (L2.start N vs) H s1 := inv_start S room.hd e0 l0 rv x1
  refine wpAny_mono (ht0.nox.run [] s1 (L2.start N vs) H _ I0 ht1) (fun fl s' z => ?_) fun e s' z => z
  have out : ∀ {σ' : L2.St} {H' : Hp} {v : V} {u : Value}, L2.Inv (cxOf CX P w K mg base N qual (defScope st) f cdv A outer s H E) [] σ' H' s' → RelV v u → Q v H' → CE outer P w H s Q u s' := by
    intro σ' H' v u J r q
    exact ⟨v, H', J.os, J.bare, J.base, J.hok, r, q⟩
  cases fl with
  | ret u => exact (fun ⟨v, σ', H', J, r, q⟩ => out J r q) z
  | next => exact (fun ⟨σ', H', J, q⟩ => out (v := V.non) (u := Value.none) J rfl q) z
  | brk => exact z.elim fun _ z => z.elim fun _ z => z.2.elim
  | cont => exact z.elim fun _ z => z.elim fun _ z => z.2.elim
theorem runN {sp : Nat → Sp} {Q : VK} {us : List Value} {vs : List V} {A : Around} (F : FnN X.prog X.w X.K X.mg X.base CX k f fd ps sp) (hr : Room k A) (e0 : Env0 X.prog X.w X.K X.mg X.base A X.stack s H) (hb : L2.Binds X.K fd ps []) (hx : Passes CX X E)
    (I : L2.Inv X pins σ H s) (r : Vals vs us) (h : sp s.heap.objs.size vs H Q E) : wpAny (model X.prog X.w) A (call (.ref f) us) (EP X pins σ Q) X.xe s := by
  have hl := F.len _ _ _ _ _ h
  rw [r.length] at hl
  refine wpAny_call (codeAny_mono (F.run A X.stack s H ⟨us, []⟩ us vs Q E hr e0 (by
    have z := hb s us I.kIn (by rw [List.append_nil]; exact hl)
    rw [List.append_nil] at z
    exact z) r h) fun r s' hq => ?_)
  cases r with
  | error e => exact hx pins σ H s e s' I hq
  | ok fl =>
    cases fl with
    | ret u => exact I.after hq
    | next => exact False.elim hq
    | brk => exact False.elim hq
    | cont => exact False.elim hq
/-- what an own __iter__ promises that gives out an iterator over a text -/
def spIterT (C : Addr) (txt : List (Str × V) → Option Str) (n : Nat) : Sp := fun vs H Q _ => ∃ a dx fs x, vs = [.ref a] ∧ H a = some (.ins C dx fs) ∧ txt fs = some x ∧ ∀ p, H p = none → n ≤ p → Q (.ref p) (upd H p (SitO p x 0))
theorem sit_next {M : Model} {A : Around} {Q : Value → Shared → Prop} {E' : Value → Shared → Prop} {p : Addr} {x : Str} {t : Tok} {i : Nat} {ty : String} (e : ty = "str_ascii_iterator" ∨ ty = "str_iterator") (st : s.heap.IsStrIter p ty x t i) (h : Q (.ref p) s) :
    PySem.W.OwitIt M A Q E' (.ref p) s := by
  unfold PySem.W.OwitIt
  rcases e with rfl | rfl
  · exact wpAny_specialOf st.typeIs PySem.F.slot_str_ascii_iterator_next.lookup h
  · exact wpAny_specialOf st.typeIs PySem.F.slot_str_iterator_next.lookup h
/-- for x in o, o an instance whose __iter__ gives out an iterator over a text -/
def iOwnT (C : Addr) (txt : List (Str × V) → Option Str) (te : TE) : TI := fun σ H R => te σ H fun v H1 => ∃ a dx fs x, v = .ref a ∧ H1 a = some (.ins C dx fs) ∧ txt fs = some x ∧ R (Its x) H1
theorem pi_ownT {tg e : Expr} {te : TE} {txt : List (Str × V) → Option Str} (M : Meth X.K C "__iter__" f) (F : FnN X.prog X.w X.K X.mg X.base CX k f fd ps (spIterT C txt)) (hr : Room k X.A) (hb : L2.Binds X.K fd ps []) (hx : Passes CX X E) (he : PE X e te) : PI X tg e (iOwnT C txt te) := by
  refine ⟨fun pins s σ H R I h => ?_⟩
  refine thn (he.run pins s σ H _ I h) fun v s1 ⟨y, H1, I1, r1, a, dx, fs, x, ey, ha, ht, q⟩ => ?_
  subst ey
  obtain rfl : v = Value.ref a := r1
  obtain ⟨ox, od, J⟩ := inst_of I1 ha
  obtain ⟨m, hF⟩ := I1.fr
  refine PySem.W.owit_iter hF I1.ok.mod.kin J M.at_ M.fn (wpAny_mono (runN (us := [.ref a]) (vs := [.ref a]) (Q := fun v H' => ∃ p, v = .ref p ∧ H1 p = none ∧ s1.heap.objs.size ≤ p ∧ H' = upd H1 p (SitO p x 0)) F hr I1.env0 hb hx I1 (.cons rfl .nil)
    ⟨a, dx, fs, x, rfl, ha, ht, fun p hp hn => ⟨p, rfl, hp, hn, rfl⟩⟩) (fun r s' z => ?_) fun _ _ x => x)
  obtain ⟨v', H', I', rz, p, rfl, hp, hn, rfl⟩ := z
  obtain rfl : r = Value.ref p := rz
  have hpp : (upd H1 p (SitO p x 0)) p = some (SitO p x 0) := upd_same
  obtain ⟨t, ty, e, st⟩ := (I'.hok p _ hpp).1
  refine sit_next e st ?_
  have yg : X.s_0.heap.objs.size ≤ p := Nat.le_trans I1.sz hn
  have I2 := ItX.inv_drop I' hpp
  have fp := ItX.inv_fp I' hpp yg
  rw [ItX.dropH_upd hp] at I2 fp
  refine ⟨p, [p], _, Its x, H1, rfl, I2, turn_str p x t ty e, st, fun b hb => ?_, q⟩
  obtain rfl : b = p := by simpa using hb
  exact fp
end
end DO

namespace DO
open PySem PySem.Spec PyProof.Rows L2
/-! ### list(o) of an instance whose __iter__ gives out an iterator over a text -/
def sgs (x : Str) : List V := x.cps.toList.map fun c => V.str ⟨#[c]⟩
theorem sgs_len (x : Str) : (sgs x).length = x.cps.size := by
  unfold sgs
  rw [List.length_map, Array.length_toList]
section
variable {X : Cx} {CX : CXT} {k : Nat} {C f : Addr} {fd : FuncData} {ps : List Str} {E : XK} {pins : List (Addr × Obj)} {σ : L2.St} {A1 : Around}
theorem walks_sit {prog : Program} {w : World} {A : Around} {p : Addr} {x : Str} {t : Tok} {ty : String} (hh : A.handled = none) (e : ty = "str_ascii_iterator" ∨ ty = "str_iterator") :
    Walks prog w A p [p] [p] x.cps.size (SignAt x) (fun i h => h.IsStrIter p ty x t i) := by
  rcases e with rfl | rfl
  · exact Walks.strAscii hh p x t
  · exact Walks.strWide hh p x t
theorem sit_loop {p q : Addr} {x : Str} {t : Tok} {ty : String} {Rs : Result → Shared → Prop} {H2 : Hp} (hh : A1.in1.handled = none) (e : ty = "str_ascii_iterator" ∨ ty = "str_iterator") (hz : x.cps.size ≤ sizeLine)
    (fp : ∀ H, H p = none → (H2 p = none → FpOk X pins H p)) (np : H2 p = none) (npq : p ≠ q)
    (done : ∀ s, L2.Inv X pins σ (upd H2 q (.lst (sgs x))) s → Rs (.ok (.ret .none)) s) :
    ∀ (m i : Nat) (s : Shared), i + m = x.cps.size → L2.Inv X pins σ (upd H2 q (.lst ((sgs x).take i))) s → s.heap.IsStrIter p ty x t i → codeAny (model X.prog X.w) A1 (.builtin "list.extend.loop" ⟨[.ref q, .ref p, .none], []⟩) Rs s := by
  intro m
  induction m with
  | zero =>
    intro i s hi I st
    have hin : i = x.cps.size := by omega
    subst hin
    have W := walks_sit (prog := X.prog) (w := X.w) (p := p) (x := x) (t := t) hh e
    refine codeAny_builtin PySem.F.entry_extend_loop ?_
    rw [Around.under_plainId PySem.F.plain_extend_loop _]
    show wpAny _ A1.in1 (pyNext (.ref p) >>= _) _ _ s
    have nH : (upd H2 q (.lst ((sgs x).take x.cps.size))) p = none := by rw [upd_ne npq]; exact np
    obtain ⟨f0, f1, f2, f3, f4, f5⟩ := fp _ nH np
    refine wpAny_bind (W.done s _ _ st fun h' tk hm => wpAny_pure (done _ ?_))
    have I' := I.turned (h' := h') (t' := tk) (it := p) (fun b o hb eo => hm b o (by simpa using hb) eo) f0 f1 f3 f4 f5
    rw [List.take_of_length_le (by rw [sgs_len]; exact Nat.le_refl _)] at I'
    exact I'
  | succ m ih =>
    intro i s hi I st
    have hlt : i < x.cps.size := by omega
    have W := walks_sit (prog := X.prog) (w := X.w) (p := p) (x := x) (t := t) hh e
    refine codeAny_builtin PySem.F.entry_extend_loop ?_
    rw [Around.under_plainId PySem.F.plain_extend_loop _]
    show wpAny _ A1.in1 (pyNext (.ref p) >>= _) _ _ s
    have nH : (upd H2 q (.lst ((sgs x).take i))) p = none := by rw [upd_ne npq]; exact np
    obtain ⟨f0, f1, f2, f3, f4, f5⟩ := fp _ nH np
    refine wpAny_bind (W.item i s _ _ hlt st fun v h' tk hv st' hm => ?_)
    obtain ⟨c, u, hc, rfl⟩ := hv
    have I' := I.turned (h' := h') (t' := tk) (it := p) (fun b o hb eo => hm b o (by simpa using hb) eo) f0 f1 f3 f4 f5
    show wpAny _ A1.in1 (updateSeq q (·.push (.str ⟨#[c]⟩ u)) >>= _) _ _ _
    obtain ⟨z, its, n, r2, hl, eo⟩ := I'.lstM upd_same
    have hlen : its.length = i := by rw [← hl, List.length_take, sgs_len]; omega
    refine wpAny_bind (wpAny_updateSeq eo rfl (wpAny_pure ⟨plainId_quiet PySem.F.plain_extend_loop _, ?_⟩) (by rw [List.size_toArray]; omega) (by show (its.toArray.push _).size ≤ sizeLine + 1; rw [Array.size_push, List.size_toArray]; omega))
    have hc' : (sgs x)[i]? = some (.str ⟨#[c]⟩) := by
      unfold sgs
      rw [List.getElem?_map, Array.getElem?_toList, hc]
      rfl
    have I2 := I'.lset (f := fun a => a.push (.str ⟨#[c]⟩ u)) (its' := its ++ [.str ⟨#[c]⟩ u]) (ys := (sgs x).take (i + 1)) (t' := tk) upd_same eo (by simp) (by
      rw [List.take_add_one, hc']
      exact r2.append (.cons ⟨u, rfl⟩ .nil)) (by rw [List.length_take, sgs_len]; omega)
    rw [upd_upd] at I2
    refine ih (i + 1) _ (by omega) I2 ?_
    obtain ⟨o, ho, hr⟩ := st'
    exact ⟨o, (Heap.get?_update_other _ _ (Ne.symm npq)).trans ho, hr⟩
/-- nothing is said of the length -/
theorem hint_own {M : Model} {A : Around} {E' : Value → Shared → Prop} {Q : Bool → Shared → Prop} {K : PySem.W.Frag} {s : Shared} {a : Addr} {ox : Obj} {od : Option Obj} (nl : PySem.W.findIn K (.ref C) "__len__" = some none) (nh : PySem.W.findIn K (.ref C) "__length_hint__" = some none)
    (hK : K.In s.heap) (J : PySem.W.InstAt s.heap a ox C od) (h : Q true s) : wpAny M A (Builtin.List.listLengthHint (.ref a)) Q E' s := by
  unfold Builtin.List.listLengthHint
  refine wpAny_bind (wpAny_bind (J.type.here ((PySem.W.looks_findIn hK nl).here ?_)))
  refine PySem.W.KFB.if_not rfl ?_
  refine PySem.W.KFB.if_not rfl (wpAny_bind (wpAny_bind (J.type.here ((PySem.W.looks_findIn hK nh).here (wpAny_pure h)))))
def rListO (C : Addr) (txt : List (Str × V) → Option Str) : List V → Hp → VK → Prop := fun xs H Q => ∃ a dx fs x, xs = [.ref a] ∧ H a = some (.ins C dx fs) ∧ txt fs = some x ∧ x.cps.size ≤ sizeLine ∧ ∀ q, H q = none → Q (.ref q) (upd H q (.lst (sgs x)))
theorem call_listO {txt : List (Str × V) → Option Str} (hc : X.calm = true) (M : Meth X.K C "__iter__" f) (nl : PySem.W.findIn X.K (.ref C) "__len__" = some none) (nh : PySem.W.findIn X.K (.ref C) "__length_hint__" = some none)
    (F : FnN X.prog X.w X.K X.mg X.base CX k f fd ps (spIterT C txt)) (hr : Room (k + 2) X.A) (hb : L2.Binds X.K fd ps []) (hx : Passes CX X E) : CallR X (.type "list") (rListO C txt) := by
  intro pins s σ H xs us Q I rv h
  obtain ⟨a, dx, fs, x, rfl, ha, ht, hz, hq⟩ := h
  obtain ⟨u, rfl, ru⟩ := rv.one
  cases ru
  refine callType_codes (Q₁ := fun obj s₁ => obj = .ref s.heap.objs.size ∧ s₁ = { s with heap := s.heap.push { cls := .type "list", data := .seq #[] } }) PySem.F.called_list (PySem.F.typeCall_list_1 _) PySem.F.entry_list_init
    (code_list_new _ ⟨rfl, rfl⟩) fun obj s₁ h₁ => ?_
  obtain ⟨rfl, rfl⟩ := h₁
  have hS : (s.heap.push { cls := .type "list", data := .seq #[] }).get? s.heap.objs.size = some { cls := .type "list", data := .seq #[] } := Heap.get?_push_size _ rfl
  refine ⟨⟨_, hS, rfl⟩, PySem.F.args_list_init_2 _ _, ?_⟩
  have fr : H s.heap.objs.size = none := I.hok.fresh (Nat.le_refl _)
  have fin := hq _ fr
  generalize hqq : s.heap.objs.size = q at fr fin hS ⊢
  have I1 : L2.Inv X pins σ (upd H q (.lst [])) { s with heap := s.heap.push { cls := .type "list", data := .seq #[] } } := by
    rw [← hqq]
    exact I.lnew (its := []) (t' := s.toks) .nil (Nat.zero_le _)
  show wpAny _ _ (do let old ← Builtin.List.listItems (.ref q); Builtin.List.listUpdate (.ref q) (fun _ => #[]); letGo old.toList.reverse; Builtin.List.listExtendWith (.ref q) (.ref a) .none) _ _ _
  refine wpAny_bind ?_
  unfold Builtin.List.listItems
  refine wpAny_bind (wpAny_seqItems hS rfl (wpAny_pure ?_))
  show wpAny _ _ (updateSeq q (fun _ => #[]) >>= fun _ => letGo (#[] : Array Value).toList.reverse >>= fun _ => Builtin.List.listExtendWith (.ref q) (.ref a) .none) _ _ _
  refine wpAny_bind (wpAny_updateSeq hS rfl ?_)
  have I2 := I1.lset (f := fun _ => #[]) (its := []) (its' := []) (ys := []) (t' := s.toks) upd_same hS rfl .nil (Nat.zero_le _)
  rw [upd_upd] at I2
  refine wpAny_bind (wpAny_letGo ?_)
  have qa : a ≠ q := ne_of_none ha fr
  have ha2 : upd H q (.lst []) a = some (.ins C dx fs) := by rw [upd_ne qa]; exact ha
  obtain ⟨ox, od, J⟩ := inst_of I2 ha2
  obtain ⟨m, hF⟩ := I2.fr
  unfold Builtin.List.listExtendWith
  refine wpAny_bind (J.type.here ?_)
  have h1 : Builtin.List.listSameRef (.ref q) (.ref a) = false := by simp [Builtin.List.listSameRef, qa.symm]
  have h2 : (Value.ref C == Value.type "list") = false := rfl
  have h3 : (Value.ref C == Value.type "tuple") = false := rfl
  simp only [h1, h2, h3, Bool.or_false, Bool.false_eq_true, if_false]
  have room : Room k X.A.in1.in1 := (show Room (k + 1) X.A.in1 from Room.in1 hr).in1
  refine wpAny_bind (PySem.W.owit_iter hF I2.ok.mod.kin J M.at_ M.fn (wpAny_mono (runN (us := [.ref a]) (vs := [.ref a]) (Q := fun v H' => ∃ p, v = .ref p ∧ (upd H q (.lst [])) p = none ∧ s.heap.objs.size ≤ p ∧ H' = upd (upd H q (.lst [])) p (SitO p x 0)) F room I2.env0.in1.in1 hb hx I2 (.cons rfl .nil)
    ⟨a, dx, fs, x, rfl, ha2, ht, fun p hp hn => ⟨p, rfl, hp, Nat.le_trans (by simp [Heap.update, Heap.push]) hn, rfl⟩⟩) (fun r s' z => ?_) fun e s' he => he))
  obtain ⟨v', H', I', rz, p, rfl, hp, hn, rfl⟩ := z
  obtain rfl : r = Value.ref p := rz
  have hpp : (upd (upd H q (.lst [])) p (SitO p x 0)) p = some (SitO p x 0) := upd_same
  obtain ⟨t, ty, e, st⟩ := (I'.hok p _ hpp).1
  refine sit_next e st ?_
  have yg : X.s_0.heap.objs.size ≤ p := Nat.le_trans I.sz hn
  have I3 := ItX.inv_drop I' hpp
  have fp := ItX.inv_fp I' hpp yg
  rw [ItX.dropH_upd hp] at I3 fp
  have npq : p ≠ q := fun z => by
    rw [z, upd_same] at hp
    cases hp
  have np : H p = none := by rw [upd_ne npq] at hp; exact hp
  obtain ⟨ox3, od3, J3⟩ := inst_of I3 ha2
  have hh : X.A.in1.in1.handled = none := I.ok.hd hc
  have go : ∀ s'', L2.Inv X pins σ (upd H q (.lst [])) s'' → s''.heap.IsStrIter p ty x t 0 → codeAny (model X.prog X.w) X.A.in1 (.builtin "list.extend.loop" ⟨[.ref q, .ref p, .none], []⟩) (wants (fun r s₂ => r = .none ∧ EP X pins σ Q (.ref q) s₂) X.xe) s'' := fun s'' I'' st'' =>
    sit_loop (H2 := H) hh e hz (fun H' hH' _ => ⟨hH', fp.2⟩) np npq (fun s3 I5 => ⟨rfl, .ref q, _, I5, rfl, fin⟩) x.cps.size 0 s'' (by omega) I'' st''
  refine wpAny_bind (wpAny_holding (hint_own nl nh I3.kIn J3 ?_))
  refine wpAny_ite_split (fun _ => ?_) (fun _ => wpAny_pure ⟨plainId_quiet PySem.F.plain_extend_loop _, go _ I3 st⟩)
  refine wpAny_bind (wpAny_rule ?_)
  refine wpAny_bind ?_
  show wpAny _ _ (updateSeq q (·.push .none) >>= fun _ => updateSeq q (·.pop)) _ _ _
  obtain ⟨z, its, kk, r3, hl3, e3⟩ := I3.lstM upd_same
  cases r3
  refine wpAny_bind (wpAny_updateSeq e3 rfl ?_)
  have I4 := I3.lset (f := (·.push Value.none)) (its' := [Value.none]) (ys := [.non]) (t' := s'.toks) upd_same e3 (by simp) (.cons rfl .nil) (by rw [List.length_singleton, sizeLine_eq]; decide)
  rw [upd_upd] at I4
  obtain ⟨z4, its4, k4, r4, hl4, e4⟩ := I4.lstM upd_same
  obtain ⟨u4, rfl, ru4⟩ := r4.one
  refine wpAny_updateSeq e4 rfl ?_ (by show 1 ≤ sizeLine; rw [sizeLine_eq]; decide) (by show 0 ≤ sizeLine + 1; exact Nat.zero_le _)
  have I5 := I4.lset (f := (·.pop)) (its := [u4]) (its' := []) (ys := []) (t' := s'.toks) upd_same e4 (by rfl) .nil (Nat.zero_le _)
  rw [upd_upd] at I5
  refine wpAny_pure ⟨plainId_quiet PySem.F.plain_extend_loop _, go _ I5 ?_⟩
  obtain ⟨o, ho, hr'⟩ := st
  exact ⟨o, (Heap.get?_update_other _ _ (Ne.symm npq)).trans ((Heap.get?_update_other _ _ (Ne.symm npq)).trans ho), hr'⟩
end
end DO

namespace DO
open PySem PySem.Spec PyProof.Rows L2
section
variable {P : Program} {w : World} {K : PySem.W.Frag} {mg : Str → Option Value} {base : Heap}
/-! ### a dict comprehension over any walk -/
theorem dc_it {J : It} {n : Nat} {G : Hp → Prop} {Y : Nat → Hp → V → Hp → Prop} (w : Walk J n G Y) {g : TG} {tt : TT} {tk tv : TE} {vs : List Nat} {σ : L2.St} {H1 : Hp} {D : Addr} {Qd : Hp → Prop} (Pv : Nat → Hp → Prop) (h0 : Pv 0 (upd H1 D (.dK []))) (hG : ∀ i H, i ≤ n → Pv i H → G H)
    (hs : ∀ i x H H', i < n → Pv i H → Y i H x H' → g x (wipe σ vs) H' fun σ2 H2 => wipe σ2 vs = wipe σ vs ∧ tt σ2 H2 fun b H3 =>
      if b = true then tk σ2 H3 fun y H4 => tv σ2 H4 fun z H5 => ∃ kvs k, y = kV k ∧ H5 D = some (.dK kvs) ∧ kvs.length < sizeLine ∧ Pv (i + 1) (upd H5 D (.dK (putK kvs k z))) else Pv (i + 1) H3) (hd : ∀ H, Pv n H → Qd H) :
    ∃ W : Nat → Nat → Hp → Prop, (∃ m, W 0 m (upd H1 D (.dK []))) ∧ ∀ i m H, W i m H →
      (J.stop i H ∧ Qd H) ∨ (J.go i H ∧ ∃ Nx : Hp → Prop, (∀ H', Nx H' → ∃ m', m' < m ∧ W (i + 1) m' H') ∧ ∀ x H', J.yld i H x H' → g x (wipe σ vs) H' fun σ2 H2 => wipe σ2 vs = wipe σ vs ∧ tt σ2 H2 fun b H3 =>
        if b = true then tk σ2 H3 fun y H4 => tv σ2 H4 fun z H5 => ∃ kvs k, y = kV k ∧ H5 D = some (.dK kvs) ∧ kvs.length < sizeLine ∧ Nx (upd H5 D (.dK (putK kvs k z))) else Nx H3) := by
  refine ⟨fun i m H => m = n - i ∧ i ≤ n ∧ Pv i H, ⟨n, by simp, Nat.zero_le _, h0⟩, fun i m H hW => ?_⟩
  obtain ⟨rfl, hi, p⟩ := hW
  have gh := hG i H hi p
  rcases Nat.lt_or_ge i n with hlt | hge
  · exact .inr ⟨w.goes i H hlt gh, Pv (i + 1), fun H' p' => ⟨n - (i + 1), by omega, rfl, hlt, p'⟩, fun x H' y => hs i x H H' hlt p (w.yields i H x H' hlt gh y)⟩
  · have e : i = n := by omega
    subst e
    exact .inl ⟨w.stops H gh, hd H p⟩
section
variable {X : Cx}
theorem swD_true {kx vx : Expr} {gs : List Comprehension} {scope : Scope} {pos py : Pos} {y : Str} {l : Nat} {env : Env} (hk : env.scope.kind = .function) (hy : env.scope.names.lookup y = some .local) (hl : (py.line == pos.line) = true)
    (ha : (scope.names.any fun (n, k) => n == y && (k == .local || k == .cell)) = false) : swapsWith (.DictComp kx vx gs scope pos) (some (.Name y py)) l env = pure true := by
  have h1 : env.kindOf y = some .local := hy
  have h2 : env.blockKind = .function := by
    unfold Env.blockKind
    rw [hk]
    rfl
  unfold swapsWith
  simp only [h2, h1, ha, Expr.pos, hl]
  rfl
/-- name = {..} on one line, the name a local -/
theorem ps_setDc {i : Nat} {y : Str} {py : Pos} {kx vx tg iter : Expr} {ifs : List Expr} {scope : Scope} {own : List (Str × Nat)} {pos spos : Pos} {wi : TI} {g : TG} {tt : TT} {tk tv : TE} (hc : X.calm = true) (hN : X.N.Nodup) (hy : X.N[i]? = some y) (hyl : X.env.scope.names.lookup y = some .local)
    (hsw : swapsWith (.DictComp kx vx [⟨tg, iter, ifs, 0⟩] scope pos) (some (.Name y py)) spos.line X.env = pure true) (hi : PI X tg iter wi) (ok : BlkOk X.N X.env.scope scope own)
    (hg : ∀ (s : Shared) (H : Hp) (C : Addr) (cl : List (Str × Addr)) (fp : List Addr), PG (X.blk s H scope (compEnvC scope cl C X.env) fp) tg g) (ht : ∀ (s : Shared) (H : Hp) (C : Addr) (cl : List (Str × Addr)) (fp : List Addr), PTs (X.blk s H scope (compEnvC scope cl C X.env) fp) ifs tt)
    (hk : ∀ (s : Shared) (H : Hp) (C : Addr) (cl : List (Str × Addr)) (fp : List Addr), PE (X.blk s H scope (compEnvC scope cl C X.env) fp) kx tk) (hv : ∀ (s : Shared) (H : Hp) (C : Addr) (cl : List (Str × Addr)) (fp : List Addr), PE (X.blk s H scope (compEnvC scope cl C X.env) fp) vx tv)
    (hs : ∀ x, foldedSetIterable iter X.env x = pure x := by intro _; rfl) : PS X (.Assign [.Name y py] (.DictComp kx vx [⟨tg, iter, ifs, 0⟩] scope pos) spos) (tAsg (tDc wi g tt tk tv (own.map (·.2))) (gName i)) := by
  refine ⟨fun pins s σ H D I h => ?_⟩
  rw [exec_Assign_Name_used _ _ _ _ hsw]
  refine wpAny_bind (wpAny_standAt (wpAny_bind ?_))
  show wpAny _ X.A (do let _ ← comprehension (.DictComp kx vx [⟨tg, iter, ifs, 0⟩] scope pos) scope X.env (firstIterPos [⟨tg, iter, ifs, 0⟩] pos) newDict false (eval iter X.env) (some (assign (.Name y py) X.env))) _ _ s
  have h : tDc wi g tt tk tv (own.map (·.2)) σ H (fun x H1 => gName i x σ H1 D.nx) := h
  refine wpAny_bind (thn (dc_core (Qf := fun _ s' => SP X pins D .next s') hc hN I hi ok hg ht hk hv hs h fun L C s' m H' I' q hn f => ?_) fun _ s' hq => wpAny_pure (wpAny_pure hq))
  show wpAny _ _ (assign (.Name y py) X.env (.ref L)) _ _ _
  obtain ⟨f0, f1, f2, f3, f4, f5⟩ := f
  refine wpAny_assign_Name (store_ok2 (v := V.ref L) I' hN hy (.inl hyl) rfl (fun s2 I2 ⟨a, sb, ha⟩ => ?_) (.inr hyl))
  have hCa : C ≠ a := ha.elim (fun z => by rw [z]; exact f1) fun z e => f4 y a z e.symm
  exact ⟨m, hn.sameBut sb hCa, fun h3 sb3 => ⟨_, H', I2.turned (t' := s2.toks) (fun b o hb e => (sb3.2 b hb).trans e) f0 f1 f3 f4 f5, q⟩⟩
end
/-! ### the signs of a text, each once, in order -/
def addN (ks : List Nat) (c : Nat) : List Nat := if c ∈ ks then ks else ks ++ [c]
def once (cs : List Nat) : List Nat := cs.foldl addN []
def asc (cs : List Nat) : List Nat := sortN (once cs)
theorem addN_mem {ks : List Nat} {c x : Nat} : x ∈ addN ks c ↔ x ∈ ks ∨ x = c := by
  unfold addN
  split
  · constructor
    · exact .inl
    · rintro (h | rfl)
      · exact h
      · assumption
  · rw [List.mem_append, List.mem_singleton]
theorem addN_nd {ks : List Nat} {c : Nat} (h : ks.Nodup) : (addN ks c).Nodup := by
  unfold addN
  split
  · exact h
  · exact nd_snoc h (by assumption)
theorem addN_len (ks : List Nat) (c : Nat) : (addN ks c).length ≤ ks.length + 1 := by
  unfold addN
  split
  · omega
  · rw [List.length_append]
    exact Nat.le_refl _
theorem fold_once (cs : List Nat) : ∀ ks : List Nat, ks.Nodup → (cs.foldl addN ks).Nodup ∧ (∀ x, x ∈ cs.foldl addN ks ↔ x ∈ ks ∨ x ∈ cs) ∧ (cs.foldl addN ks).length ≤ ks.length + cs.length := by
  induction cs with
  | nil =>
    intro ks h
    exact ⟨h, fun x => by simp, by simp⟩
  | cons c r ih =>
    intro ks h
    obtain ⟨h1, h2, h3⟩ := ih (addN ks c) (addN_nd h)
    refine ⟨h1, fun x => ?_, ?_⟩
    · rw [List.foldl_cons, h2, addN_mem, List.mem_cons, or_assoc]
    · have := addN_len ks c
      rw [List.foldl_cons, List.length_cons]
      omega
theorem once_nd (cs : List Nat) : (once cs).Nodup := (fold_once cs [] List.nodup_nil).1
theorem once_mem (cs : List Nat) (x : Nat) : x ∈ once cs ↔ x ∈ cs := by
  have h := (fold_once cs [] List.nodup_nil).2.1 x
  unfold once
  simpa using h
theorem once_len (cs : List Nat) : (once cs).length ≤ cs.length := by
  have h := (fold_once cs [] List.nodup_nil).2.2
  unfold once
  simpa using h
theorem asc_mem (cs : List Nat) (x : Nat) : x ∈ asc cs ↔ x ∈ cs := (sortN_perm _).mem_iff.trans (once_mem cs x)
theorem asc_len (cs : List Nat) : (asc cs).length ≤ cs.length := by
  unfold asc
  rw [sortN_len]
  exact once_len cs
theorem asc_nd (cs : List Nat) : (asc cs).Nodup := (sortN_perm _).nodup_iff.mpr (once_nd cs)
theorem asc_srt (cs : List Nat) : (asc cs).Pairwise (· < ·) := by
  refine List.Pairwise.imp₂ (R := fun a b => a ≤ b) (S := fun a b => a ≠ b) (fun a b h1 h2 => by omega) (sortN_srt (once cs)) (asc_nd cs)
def TD (ks : List Nat) : List (Key × V) := ks.map fun c => ((Sum.inr (sg c) : Key), V.bl true)
theorem TD_len (ks : List Nat) : (TD ks).length = ks.length := by
  unfold TD
  rw [List.length_map]
theorem putK_TD (ks : List Nat) (c : Nat) : putK (TD ks) (Sum.inr (sg c)) (.bl true) = TD (addN ks c) := by
  have ea : ((TD ks).any fun kv => decide (kv.1 = (Sum.inr (sg c) : Key))) = decide (c ∈ ks) := by
    unfold TD
    rw [List.any_map]
    induction ks with
    | nil => rfl
    | cons x r ih =>
      rw [List.any_cons, ih]
      show (decide ((Sum.inr (sg x) : Key) = Sum.inr (sg c)) || decide (c ∈ r)) = decide (c ∈ x :: r)
      rw [key_sg]
      by_cases h1 : x = c
      · subst h1
        simp
      · have h1' : ¬ c = x := fun z => h1 z.symm
        by_cases h2 : c ∈ r <;> simp [h1, h1', h2]
  unfold putK addN
  rw [ea]
  by_cases h : c ∈ ks
  · rw [if_pos (decide_eq_true h), if_pos h]
    unfold TD
    rw [List.map_map]
    apply List.map_congr_left
    intro x _
    show (if (Sum.inr (sg x) : Key) = Sum.inr (sg c) then ((Sum.inr (sg x) : Key), V.bl true) else ((Sum.inr (sg x) : Key), V.bl true)) = _
    split <;> rfl
  · rw [if_neg (by simp [h]), if_neg h]
    unfold TD
    rw [List.map_append]
    rfl
abbrev sAsc : Stmt := top 1
theorem scAsc : FnScope ["text", "found", "char"] ["text"] (defScope sAsc) := ⟨rfl, rfl, rfl, by decide +kernel, rfl, by decide +kernel, by decide +kernel⟩
def spAsc : Sp := fun vs H Q _ => ∃ cs : List Nat, vs = [.str (tx cs)] ∧ cs.length ≤ 1000 ∧ ∀ H', Same H H' → Q (.str (tx (asc cs))) H'
theorem ok_asc (D : Df K mg "ascending_signs" sAsc ["text"]) (mso : mg "sorted" = none) (mst : mg "str" = none) : FnOk P w K mg base CX0 1 D.f D.fd ["text"] spAsc := by
  refine D.fn.ok scAsc (fun vs H Q E h => ?_) (fun cdv A outer s H vs Q E hr h => ?_)
  · obtain ⟨cs, rfl, _⟩ := h
    rfl
  · obtain ⟨cs, rfl, hl, k⟩ := h
    have hu := hu_of hr
    have hu2 : (A.deeper (envOfC "ascending_signs" (defScope sAsc) s.heap.objs.size D.f cdv)).units + 2 < cLine := Nat.lt_of_le_of_lt (Nat.add_le_add_left (by decide : 2 ≤ 64) _) hr.units
    refine ⟨_, (pss_cons (ps_setDc (i := 1) (own := [("char", 2)]) (g := gName 2) (tt := tYes) rfl scAsc.nd rfl rfl (swD_true rfl rfl rfl (by decide +kernel)) (pi_str (pv 0)) (blkOk_by (N := ["text", "found", "char"]) (sc := defScope sAsc) (by decide +kernel)) (fun _ _ _ _ _ => pg_name (i := 2) scAsc.nd rfl (Or.inl rfl)) (fun _ _ _ _ _ => pts_nil) (fun _ _ _ _ _ => (pv 2)) (fun _ _ _ _ _ => pe_bl))
      (pss_one (ps_ret (pe_join pe_str (pe_callB (cr_sortedT hu2) (by rfl) mso (by decide +kernel) (pa_cons (pe_lock (pe_lc (own := [("char", 2)]) (g := gName 2) (tt := tYes) rfl scAsc.nd (pi_keys (pv 1)) (blkOk_by (N := ["text", "found", "char"]) (sc := defScope sAsc) (by decide +kernel)) (fun _ _ _ _ _ => pg_name (i := 2) scAsc.nd rfl (Or.inl rfl)) (fun _ _ _ _ _ => pts_nil) (fun _ _ _ _ _ => (pe_callTy SkE.call_str_str (by rfl) mst (by decide +kernel) (pa_cons (pv 2) pa_nil))))) pa_nil)))))), ?_⟩
    have hsz : (tx cs).cps.size = cs.length := tx_len cs
    refine ⟨_, rfl, tx cs, rfl, fun d nd => dc_it walk_str (fun i H2 => H2 = upd H d (.dK (TD ((cs.take i).foldl addN [])))) rfl (fun _ _ _ _ => trivial) ?_ ?_⟩
    · rintro i x H2 H3 hi rfl ⟨rfl, c, hc, rfl⟩
      have hc' : cs[i]? = some c := by
        have : (cs.toArray)[i]? = some c := hc
        rw [List.getElem?_toArray] at this
        exact this
      rw [hsz] at hi
      refine ⟨rfl, _, rfl, TD ((cs.take i).foldl addN []), Sum.inr (sg c), rfl, upd_same, ?_, ?_⟩
      · rw [TD_len]
        have := (fold_once (cs.take i) [] List.nodup_nil).2.2
        rw [List.length_take] at this
        exact small1000 (by simp only [List.length_nil] at this; omega)
      · rw [upd_upd, putK_TD, List.take_add_one, hc', Option.toList_some, List.foldl_append]
        rfl
    · rintro H2 rfl
      rw [hsz, List.take_length]
      show _
      refine ⟨⟨_, rfl⟩, d, .dK (TD (once cs)), upd_same, trivial, fun od => ?_⟩
      have hfz : (upd (upd H d (.dK (TD (once cs)))) d (.frz od (.dK (TD (once cs))))) d = some (.frz od (.dK (TD (once cs)))) := upd_same
      refine ⟨_, rfl, d, od, rfl, .inl ⟨TD (once cs), hfz, fun L nL => ?_⟩⟩
      have hLd : d ≠ L := ne_of_none hfz nL
      refine lc_it walk_keys (fun i H2 => H2 = upd (upd (upd H d (.dK (TD (once cs)))) d (.frz od (.dK (TD (once cs))))) L (.lst (SgL ((once cs).take i)))) rfl (fun i H2 _ e => by rw [e, upd_ne hLd]; exact hfz) ?_ ?_
      · rintro i x H2 H3 hi rfl ⟨rfl, kk, vv, hk, rfl⟩
        rw [TD_len] at hi
        have hc : (once cs)[i]? = some (once cs)[i] := List.getElem?_eq_getElem hi
        have hk2 : kk = Sum.inr (sg (once cs)[i]) := by
          unfold TD at hk
          rw [List.getElem?_map, hc] at hk
          exact (congrArg Prod.fst (Option.some.inj hk)).symm
        subst hk2
        refine ⟨rfl, ?_⟩
        refine ⟨_, rfl, sg (once cs)[i], rfl, _, upd_same, ?_, ?_⟩
        · rw [SgL_len, List.length_take]
          have := once_len cs
          exact small1000 (by omega)
        · rw [upd_upd, List.take_add_one, hc]
          unfold SgL
          rw [List.map_append]
          rfl
      · rintro H2 rfl
        rw [TD_len, List.take_length]
        have hL : (upd (upd (upd (upd H d (.dK (TD (once cs)))) d (.frz od (.dK (TD (once cs))))) L (.lst (SgL (once cs)))) d (.dK (TD (once cs)))) L = some (.lst (SgL (once cs))) := by rw [upd_ne hLd.symm, upd_same]
        have nL' : H L = none := by
          rw [upd_ne hLd.symm, upd_ne hLd.symm] at nL
          exact nL
        have sm : Same H (upd (upd (upd (upd H d (.dK (TD (once cs)))) d (.frz od (.dK (TD (once cs))))) L (.lst (SgL (once cs)))) d (.dK (TD (once cs)))) := fun b o e => by
          have h1 := ne_of_none e nd
          have h2 := ne_of_none e nL'
          rw [upd_ne h1, upd_ne h2, upd_ne h1, upd_ne h1]
          exact e
        refine ⟨by rw [upd_ne hLd]; exact hfz, ?_⟩
        generalize (upd (upd (upd (upd H d (.dK (TD (once cs)))) d (.frz od (.dK (TD (once cs))))) L (.lst (SgL (once cs)))) d (.dK (TD (once cs)))) = H4 at hL sm
        refine ⟨L, (once cs).map sg, rfl, sql_of (by rw [← SgL_str]; exact hL), fun p np => ?_⟩
        rw [sort_sg]
        refine ⟨_, p, (asc cs).map sg, rfl, rfl, .inl (sql_of upd_same), join_room (by have := asc_len cs; omega), ?_⟩
        rw [join_tx]
        exact k _ (sm.trans (same_upd np))
end
end DO

namespace DO
open PySem PySem.Spec PyProof.Rows L2
/-! ### two dicts of lengths compared -/
def eqLD (L M : List (Nat × Int)) : Bool := (L.length == M.length) && L.all fun p => getL M p.1 == some p.2
theorem hits_LD {A : Around} {s : Shared} {M : List (Nat × Int)} {vb : List (Key × Value)} (rb : KV (LD M) vb) : ∀ (L : List (Nat × Int)) {va : List (Key × Value)}, KV (LD L) va → PySem.W.KeqHits A s vb va (L.all fun p => getL M p.1 == some p.2)
  | [], va, ra => by
    cases ra
    exact .nil
  | p :: r, va, ra => by
    unfold KV at ra
    cases ra with
    | @cons _ q _ qs h t =>
      obtain ⟨k, v⟩ := q
      obtain ⟨h1, h2⟩ := h
      obtain rfl : (Sum.inr (sg p.1) : Key) = k := h1
      obtain ⟨tk, rfl⟩ : ∃ tk, v = Value.int p.2 tk := h2
      have ih := hits_LD (A := A) (s := s) rb r t
      have rv := rb.val (Sum.inr (sg p.1))
      rw [valV_LD] at rv
      rw [List.all_cons]
      cases e : getL M p.1 with
      | none =>
        rw [e] at rv
        have hn : valueAt vb (Sum.inr (sg p.1)) = none := by
          cases q : valueAt vb (Sum.inr (sg p.1)) with
          | none => rfl
          | some u => rw [q] at rv; exact rv.elim
        exact .miss hn
      | some n =>
        rw [e] at rv
        obtain ⟨y, hy, ty, rfl⟩ : ∃ y, valueAt vb (Sum.inr (sg p.1)) = some y ∧ ∃ ty, y = Value.int n ty := by
          cases q : valueAt vb (Sum.inr (sg p.1)) with
          | none => rw [q] at rv; exact rv.elim
          | some u => rw [q] at rv; exact ⟨u, rfl, rv⟩
        have he := SeqAt.EqAt.int_int (A := A) (s := s) p.2 tk n ty
        have e3 : (some n == some p.2) = (p.2 == n) := by
          by_cases z : p.2 = n
          · subst z
            simp
          · have a1 : (n == p.2) = false := beq_eq_false_iff_ne.mpr fun w => z w.symm
            have a2 : (p.2 == n) = false := beq_eq_false_iff_ne.mpr z
            rw [show (some n == some p.2) = (n == p.2) from rfl, a1, a2]
        rw [e3]
        exact .hit hy he ih
def rEqLD : R2 := fun x y H Q => ∃ a b L M, x = .ref a ∧ y = .ref b ∧ H a = some (.dK (LD L)) ∧ H b = some (.dK (LD M)) ∧ Q (.bl (eqLD L M)) H
section
variable {X : Cx}
theorem op_eqLD (hu : X.A.units < cLine) : OpR X (compareOp .Eq) rEqLD := by
  intro pins s σ H x y v u Q I rx ry h
  obtain ⟨a, b, L, M, rfl, rfl, ea, eb, q⟩ := h
  obtain rfl : v = Value.ref a := rx
  obtain rfl : u = Value.ref b := ry
  obtain ⟨_, ya, va, ra, da⟩ := (show ObjOk X.prog X.w H s.heap a (.dK (LD L)) from I.hok a _ ea)
  obtain ⟨_, yb, vb, rb, db⟩ := (show ObjOk X.prog X.w H s.heap b (.dK (LD M)) from I.hok b _ eb)
  have la : L.length = va.length := by
    have z := ra.length
    rw [LD_len] at z
    exact z
  have lb : M.length = vb.length := by
    have z := rb.length
    rw [LD_len] at z
    exact z
  refine PySem.W.keq_eq (knd := mixKind X.prog X.w) (r := L.all fun p => getL M p.1 == some p.2) ya yb da db hu (fun _ => hits_LD rb L ra) (fin_bl I q ?_)
  unfold eqLD
  rw [la, lb]
end
/-! ### strictly rising lists are told by what they hold -/
theorem rise_ext : ∀ {a b : List Nat}, a.Pairwise (· < ·) → b.Pairwise (· < ·) → (∀ x, x ∈ a ↔ x ∈ b) → a = b
  | [], [], _, _, _ => rfl
  | [], y :: b, _, _, h => absurd ((h y).mpr (List.mem_cons_self)) (by simp)
  | x :: a, [], _, _, h => absurd ((h x).mp (List.mem_cons_self)) (by simp)
  | x :: a, y :: b, ha, hb, h => by
    obtain ⟨ha1, ha2⟩ := List.pairwise_cons.mp ha
    obtain ⟨hb1, hb2⟩ := List.pairwise_cons.mp hb
    have e : x = y := by
      rcases List.mem_cons.mp ((h x).mp List.mem_cons_self) with z | z
      · exact z
      · rcases List.mem_cons.mp ((h y).mpr List.mem_cons_self) with w | w
        · exact w.symm
        · have := hb1 x z
          have := ha1 y w
          omega
    subst e
    refine congrArg (x :: ·) (rise_ext ha2 hb2 fun z => ⟨fun hz => ?_, fun hz => ?_⟩)
    · rcases List.mem_cons.mp ((h z).mp (List.mem_cons_of_mem _ hz)) with w | w
      · have := ha1 z hz
        omega
      · exact w
    · rcases List.mem_cons.mp ((h z).mpr (List.mem_cons_of_mem _ hz)) with w | w
      · have := hb1 z hz
        omega
      · exact w
theorem asc_ext {a b : List Nat} (h : ∀ x, x ∈ a ↔ x ∈ b) : asc a = asc b := rise_ext (asc_srt a) (asc_srt b) fun x => (asc_mem a x).trans ((h x).trans (asc_mem b x).symm)
theorem asc_id {a : List Nat} (h : a.Pairwise (· < ·)) : asc a = a := rise_ext (asc_srt a) h fun x => asc_mem a x
/-- a function told by a rising list -/
def mk (ks : List Nat) (g : Nat → Int) : List (Nat × Int) := (asc ks).map fun c => (c, g c)
theorem mk_keys (ks : List Nat) (g : Nat → Int) : (mk ks g).map (·.1) = asc ks := by
  unfold mk
  rw [List.map_map]
  exact List.map_id' _
theorem mk_nd (ks : List Nat) (g : Nat → Int) : ((mk ks g).map (·.1)).Nodup := by
  rw [mk_keys]
  exact asc_nd ks
theorem mk_len (ks : List Nat) (g : Nat → Int) : (mk ks g).length ≤ ks.length := by
  unfold mk
  rw [List.length_map]
  exact asc_len ks
theorem mk_get (ks : List Nat) (g : Nat → Int) (c : Nat) : getL (mk ks g) c = if c ∈ ks then some (g c) else none := by
  split
  · rename_i h
    exact mem_getL (mk_nd ks g) (List.mem_map.mpr ⟨c, (asc_mem ks c).mpr h, rfl⟩)
  · rename_i h
    refine getL_none.mpr fun p hp e => h ?_
    obtain ⟨x, hx, rfl⟩ := List.mem_map.mp hp
    exact (asc_mem ks c).mp (e ▸ hx)
/-- the rising form of any dict of lengths -/
def gD (L : List (Nat × Int)) (c : Nat) : Int := (getL L c).getD 0
def canon (L : List (Nat × Int)) : List (Nat × Int) := mk (L.map (·.1)) (gD L)
theorem key_some {L : List (Nat × Int)} {c : Nat} : c ∈ L.map (·.1) ↔ (getL L c).isSome = true := by
  constructor
  · intro h
    cases e : getL L c with
    | some n => rfl
    | none =>
      obtain ⟨p, hp, e2⟩ := List.mem_map.mp h
      exact absurd e2 (getL_none.mp e p hp)
  · intro h
    obtain ⟨n, e⟩ := Option.isSome_iff_exists.mp h
    exact List.mem_map.mpr ⟨_, getL_mem e, rfl⟩
theorem canon_get (L : List (Nat × Int)) (c : Nat) : getL (canon L) c = getL L c := by
  unfold canon
  rw [mk_get]
  by_cases h : c ∈ L.map (·.1)
  · rw [if_pos h]
    obtain ⟨n, e⟩ := Option.isSome_iff_exists.mp (key_some.mp h)
    unfold gD
    rw [e]
    rfl
  · rw [if_neg h]
    cases e : getL L c with
    | none => rfl
    | some n => exact absurd (key_some.mpr (by rw [e]; rfl)) h
theorem canon_ext {L M : List (Nat × Int)} (h : ∀ c, getL L c = getL M c) : canon L = canon M := by
  have hk : ∀ c, c ∈ L.map (·.1) ↔ c ∈ M.map (·.1) := fun c => by rw [key_some, key_some, h c]
  unfold canon mk
  rw [asc_ext hk]
  apply List.map_congr_left
  intro c _
  unfold gD
  rw [h c]
theorem rise_canon {L : List (Nat × Int)} (h : (L.map (·.1)).Pairwise (· < ·)) : canon L = L := by
  unfold canon mk
  rw [asc_id h, List.map_map]
  have nd : (L.map (·.1)).Nodup := h.imp fun {a b} z => Nat.ne_of_lt z
  calc L.map ((fun c => (c, gD L c)) ∘ fun x => x.1) = L.map id := List.map_congr_left fun p hp => by
        show (p.1, gD L p.1) = p
        unfold gD
        rw [mem_getL nd (show (p.1, p.2) ∈ L from hp)]
        rfl
    _ = L := List.map_id L
theorem canon_len (L : List (Nat × Int)) : (canon L).length ≤ L.length := by
  have := mk_len (L.map (·.1)) (gD L)
  rw [List.length_map] at this
  exact this
theorem canon_keys (L : List (Nat × Int)) : (canon L).map (·.1) = asc (L.map (·.1)) := mk_keys _ _
theorem canon_rise (L : List (Nat × Int)) : ((canon L).map (·.1)).Pairwise (· < ·) := by
  rw [canon_keys]
  exact asc_srt _
theorem sub_len : ∀ {L M : List Nat}, L.Nodup → (∀ x ∈ L, x ∈ M) → L.length ≤ M.length
  | [], _, _, _ => Nat.zero_le _
  | a :: r, M, hn, hs => by
    obtain ⟨h1, h2⟩ := List.nodup_cons.mp hn
    have ha := hs a List.mem_cons_self
    have q := sub_len (M := M.erase a) h2 fun x hx => (List.mem_erase_of_ne fun e => h1 (by rw [← e]; exact hx)).mpr (hs x (List.mem_cons_of_mem _ hx))
    rw [List.length_erase_of_mem ha] at q
    have p := List.length_pos_of_mem ha
    rw [List.length_cons]
    omega
/-- == of two dicts of lengths is that of their rising forms -/
theorem eqLD_iff {L M : List (Nat × Int)} (hL : (L.map (·.1)).Nodup) (hM : (M.map (·.1)).Nodup) : eqLD L M = decide (canon L = canon M) := by
  by_cases h : ∀ c, getL L c = getL M c
  · rw [decide_eq_true (canon_ext h)]
    unfold eqLD
    have hp : (L.map (·.1)).Perm (M.map (·.1)) := (List.perm_ext_iff_of_nodup hL hM).mpr fun c => by rw [key_some, key_some, h c]
    have hl : L.length = M.length := by
      have := hp.length_eq
      rw [List.length_map, List.length_map] at this
      exact this
    rw [Bool.and_eq_true]
    refine ⟨by rw [hl]; simp, List.all_eq_true.mpr fun p hp' => ?_⟩
    rw [← h p.1, mem_getL hL (show (p.1, p.2) ∈ L from hp')]
    simp
  · have hc : ¬ canon L = canon M := fun z => h fun c => by rw [← canon_get L, ← canon_get M, z]
    rw [decide_eq_false hc]
    cases e : eqLD L M with
    | false => rfl
    | true =>
      exfalso
      apply h
      unfold eqLD at e
      obtain ⟨e1, e2⟩ := Bool.and_eq_true_iff.mp e
      have hl : L.length = M.length := by simpa using e1
      have sub : ∀ p ∈ L, getL M p.1 = some p.2 := fun p hp => by
        have := List.all_eq_true.mp e2 p hp
        simpa using this
      have ks : ∀ c, c ∈ L.map (·.1) → c ∈ M.map (·.1) := fun c hc => by
        obtain ⟨p, hp, rfl⟩ := List.mem_map.mp hc
        exact key_some.mpr (by rw [sub p hp]; rfl)
      have pm : ∀ c, c ∈ M.map (·.1) → c ∈ L.map (·.1) := fun c hc => by
        rcases Classical.em (c ∈ L.map (·.1)) with z | z
        · exact z
        · have q := sub_len (L := c :: L.map (·.1)) (M := M.map (·.1)) (List.nodup_cons.mpr ⟨z, hL⟩) fun x hx => (List.mem_cons.mp hx).elim (fun w => by rw [w]; exact hc) (ks x)
          rw [List.length_cons, List.length_map, List.length_map] at q
          omega
      intro c
      cases e3 : getL L c with
      | some n => exact (sub _ (getL_mem e3)).symm
      | none =>
        cases e4 : getL M c with
        | none => rfl
        | some n =>
          have := pm c (key_some.mpr (show (getL M c).isSome = true by rw [e4]; rfl))
          rw [key_some, e3] at this
          cases this
end DO

namespace DO
open PySem PySem.Spec PyProof.Rows L2
section
variable {P : Program} {w : World} {K : PySem.W.Frag} {mg : Str → Option Value} {base : Heap}
/-! ### the class Catalog -/
abbrev sCls : Stmt := top 3
theorem kls : ¬ (("_letters" : Str) = "_lengths") := by decide +kernel
/-- the attributes, in the order of their storing -/
def flds (z : Str) (e : Addr) : List (Str × V) := putF "_lengths" (.ref e) (putF "_letters" (.str z) [])
theorem flds_lt (z : Str) (e : Addr) : (flds z e).lookup ("_letters" : Str) = some (.str z) := by
  unfold flds
  rw [lookup_putF, if_neg kls, lookup_putF, if_pos rfl]
theorem flds_ln (z : Str) (e : Addr) : (flds z e).lookup ("_lengths" : Str) = some (.ref e) := by
  unfold flds
  rw [lookup_putF, if_pos rfl]
theorem flds_no (z : Str) (e : Addr) {m : Str} (h1 : ¬ m = "_lengths") (h2 : ¬ m = "_letters") : (flds z e).lookup m = none := by
  unfold flds
  rw [lookup_putF, if_neg h1, lookup_putF, if_neg h2]
  rfl
def txtOf (fs : List (Str × V)) : Option Str := match fs.lookup ("_letters" : Str) with
  | some (.str x) => some x
  | _ => none
theorem txt_flds (z : Str) (e : Addr) : txtOf (flds z e) = some z := by
  unfold txtOf
  rw [flds_lt]
/-- a catalog stands at p: the lengths L, rising -/
structure CatAt (C : Addr) (H : Hp) (p : Addr) (L : List (Nat × Int)) : Prop where
  ob : ∃ dx e, H p = some (.ins C dx (flds (tx (L.map (·.1))) e)) ∧ H e = some (.dK (LD L))
  up : (L.map (·.1)).Pairwise (· < ·)
  sz : L.length ≤ 900
theorem CatAt.keep {C : Addr} {H H' : Hp} {p : Addr} {L : List (Nat × Int)} (h : CatAt C H p L) (k : Same H H') : CatAt C H' p L := by
  obtain ⟨⟨dx, e, h1, h2⟩, up, sz⟩ := h
  exact ⟨⟨dx, e, k _ _ h1, k _ _ h2⟩, up, sz⟩
theorem CatAt.kp {C a : Addr} {H H' : Hp} {p : Addr} {L : List (Nat × Int)} {xs : List V} (h : CatAt C H p L) (k : Kp a H H') (ha : H a = some (.lst xs)) : CatAt C H' p L := by
  obtain ⟨⟨dx, e, h1, h2⟩, up, sz⟩ := h
  exact ⟨⟨dx, e, k _ _ h1 (ne_of h1 ha (fun z => nomatch z)), k _ _ h2 (ne_of h2 ha (fun z => nomatch z))⟩, up, sz⟩
theorem CatAt.nd {C : Addr} {H : Hp} {p : Addr} {L : List (Nat × Int)} (h : CatAt C H p L) : (L.map (·.1)).Nodup := h.up.imp fun {a b} z => Nat.ne_of_lt z
/-- what is asked of the class as the top has made it -/
structure Cat (K : PySem.W.Frag) (mg : Str → Option Value) (C : Addr) : Prop where
  cl : Cls K C
  nT : NoAttr K C "_letters"
  nL : NoAttr K C "_lengths"
  mgC : mg "Catalog" = some (.ref C)
  sf : PySem.W.selfFirst K C = true
  ha : PySem.W.findIn K (.ref C) "__class__" = some (some (.builtin "object.__class__"))
  hn : PySem.W.specialIn K (.builtin "object.__class__") "__get__" = some (some (.builtin "getset_descriptor.__get__"))
  ht : PySem.W.takesIn K (.builtin "object.__class__") = some true
  hm : PySem.W.mroIn K C (.type "object") = some true
  kC : PySem.W.kitOne K (.ref C) (.ref C) = some true
  kB : ∀ T, T = "dict" ∨ T = "list" ∨ T = "str" ∨ T = "int" ∨ T = "NoneType" → PySem.W.kitOne K (.type T) (.ref C) = some false ∧ PySem.W.notFirst K C (.type T) = true ∧ PySem.W.subIn K (.ref C) (.type T) = some false
  sI : PySem.W.subIn K (.type "int") (.ref C) = some false
  im : PySem.W.findIn K (.type "int") "__mul__" = some (some (.builtin "int.__mul__"))
  ir : PySem.W.findIn K (.type "int") "__rmul__" = some (some (.builtin "int.__rmul__"))
abbrev sIni : Stmt := inClass sCls 0
theorem scIni : FnScope ["self", "lengths", "char"] ["self", "lengths"] (defScope sIni) := ⟨rfl, rfl, rfl, by decide +kernel, rfl, by decide +kernel, by decide +kernel⟩
def spIni (C : Addr) : Sp := fun vs H Q _ => ∃ (p d dx : Addr) (L : List (Nat × Int)), vs = [.ref p, .ref d] ∧ H p = some (.ins C dx []) ∧ H d = some (.dK (LD L)) ∧ L.length ≤ 900 ∧
  ∀ H', CatAt C H' p (canon L) → (∀ b o, H b = some o → b ≠ p → H' b = some o) → Q .non H'
/-- .. and its dict is a new one -/
def spIniF (C : Addr) : Sp := fun vs H Q _ => ∃ (p d dx : Addr) (L : List (Nat × Int)), vs = [.ref p, .ref d] ∧ H p = some (.ins C dx []) ∧ H d = some (.dK (LD L)) ∧ L.length ≤ 900 ∧
  ∀ H', (∃ dx e, H e = none ∧ H' p = some (.ins C dx (flds (tx ((canon L).map (·.1))) e)) ∧ H' e = some (.dK (LD (canon L)))) → CatAt C H' p (canon L) → (∀ b o, H b = some o → b ≠ p → H' b = some o) → Q .non H'
theorem putL_new {L : List (Nat × Int)} {c : Nat} {n : Int} (h : ¬ c ∈ L.map (·.1)) : putL L c n = L ++ [(c, n)] := by
  unfold putL
  rw [if_neg (fun z => h (any_iff.mp z))]
theorem LD_at {L : List (Nat × Int)} {i : Nat} {kk : Key} {vv : V} (h : (LD L)[i]? = some (kk, vv)) : ∃ c n, L[i]? = some (c, n) ∧ kk = Sum.inr (sg c) ∧ vv = .int n := by
  unfold LD at h
  rw [List.getElem?_map] at h
  cases e : L[i]? with
  | none =>
    rw [e] at h
    cases h
  | some p =>
    rw [e] at h
    have h2 := Option.some.inj h
    exact ⟨p.1, p.2, rfl, (congrArg Prod.fst h2).symm, (congrArg Prod.snd h2).symm⟩
theorem ok_iniF {C : Addr} (T : Cat K mg C) (M : Mf K C "__init__" "Catalog.__init__" sIni ["self", "lengths"]) (D1 : Df K mg "ascending_signs" sAsc ["text"]) (mso : mg "sorted" = none) (mst : mg "str" = none) : FnOk P w K mg base CX0 2 M.f M.fd ["self", "lengths"] (spIniF C) := by
  have G1 : FnOk P w K mg base CX0 1 D1.f D1.fd ["text"] spAsc := ok_asc D1 mso mst
  refine M.fn.ok scIni (fun vs H Q E h => ?_) (fun cdv A outer s H vs Q E hr h => ?_)
  · obtain ⟨p, d, dx, L, rfl, _⟩ := h
    rfl
  · obtain ⟨p, d, dx, L, rfl, hp, hd, hl, k⟩ := h
    have hu := hu_of hr
    refine ⟨_, (pss_cons (ps_fld (pv 0) (pe_call G1 hr (by rfl) D1.mgf D1.fn.kp D1.bd .nil pass0 (pa_cons (pe_join pe_str (pe_lock (pe_lc (own := [("char", 2)]) (g := gName 2) (tt := tYes) rfl scIni.nd (pi_keys (pv 1)) (blkOk_by (N := ["self", "lengths", "char"]) (sc := defScope sIni) (by decide +kernel)) (fun _ _ _ _ _ => pg_name (i := 2) scIni.nd rfl (Or.inl rfl)) (fun _ _ _ _ _ => pts_nil) (fun _ _ _ _ _ => (pe_callTy SkE.call_str_str (by rfl) mst (by decide +kernel) (pa_cons (pv 2) pa_nil)))))) pa_nil)) rfl)
      (pss_one (ps_fld (pv 0) (pe_dc (own := [("char", 2)]) (g := gName 2) (tt := tYes) rfl scIni.nd (pi_str (pe_fld (pv 0) rfl)) (blkOk_by (N := ["self", "lengths", "char"]) (sc := defScope sIni) (by decide +kernel)) (fun _ _ _ _ _ => pg_name (i := 2) scIni.nd rfl (Or.inl rfl)) (fun _ _ _ _ _ => pts_nil) (fun _ _ _ _ _ => (pv 2)) (fun _ _ _ _ _ => (pe_dget hu (pv 1) (pv 2) (fun _ _ => rfl)))) rfl))), ?_⟩
    have hpd : p ≠ d := ne_of hp hd (fun z => nomatch z)
    -- the signs
    refine ⟨⟨_, rfl⟩, d, .dK (LD L), hd, trivial, fun od => ?_⟩
    have hfz : (upd H d (.frz od (.dK (LD L)))) d = some (.frz od (.dK (LD L))) := upd_same
    refine ⟨_, rfl, d, od, rfl, .inl ⟨LD L, hfz, fun B nB => ?_⟩⟩
    have hBd : d ≠ B := ne_of_none hfz nB
    refine lc_it walk_keys (fun i H2 => H2 = upd (upd H d (.frz od (.dK (LD L)))) B (.lst (SgL ((L.map (·.1)).take i)))) rfl (fun i H2 _ e => by rw [e, upd_ne hBd]; exact hfz) ?_ ?_
    · rintro i x H2 H3 hi rfl ⟨rfl, kk, vv, hk, rfl⟩
      obtain ⟨c, n, hc, rfl, rfl⟩ := LD_at hk
      have hc' : (L.map (·.1))[i]? = some c := by
        rw [List.getElem?_map, hc]
        rfl
      refine ⟨rfl, ?_⟩
      refine ⟨_, rfl, sg c, rfl, _, upd_same, ?_, ?_⟩
      · rw [SgL_len, List.length_take, List.length_map]
        exact small1000 (by omega)
      · rw [upd_upd, List.take_add_one, hc']
        unfold SgL
        rw [List.map_append]
        rfl
    · rintro H2 rfl
      rw [LD_len, List.take_of_length_le (by rw [List.length_map]; exact Nat.le_refl _)]
      have nB' : H B = none := by
        rw [upd_ne hBd.symm] at nB
        exact nB
      refine ⟨by rw [upd_ne hBd]; exact hfz, ?_⟩
      have hB : (upd (upd (upd H d (.frz od (.dK (LD L)))) B (.lst (SgL (L.map (·.1))))) d (.dK (LD L))) B = some (.lst (SgL (L.map (·.1)))) := by rw [upd_ne hBd.symm, upd_same]
      have sm : Same H (upd (upd (upd H d (.frz od (.dK (LD L)))) B (.lst (SgL (L.map (·.1))))) d (.dK (LD L))) := fun b o e => by
        have h2 := ne_of_none e nB'
        by_cases h1 : b = d
        · subst h1
          rw [hd] at e
          rw [upd_same]
          exact e
        · rw [upd_ne h1, upd_ne h2, upd_ne h1]
          exact e
      generalize (upd (upd (upd H d (.frz od (.dK (LD L)))) B (.lst (SgL (L.map (·.1))))) d (.dK (LD L))) = H4 at hB sm
      refine ⟨_, B, (L.map (·.1)).map sg, rfl, rfl, .inl (sql_of (by rw [← SgL_str]; exact hB)), join_room (by rw [List.length_map]; omega), ?_⟩
      rw [join_tx]
      refine ⟨L.map (·.1), rfl, by rw [List.length_map]; omega, fun H5 s5 => ?_⟩
      have s05 : Same H H5 := sm.trans s5
      -- the lengths
      refine ⟨_, rfl, p, C, dx, [], rfl, s05 _ _ hp, T.cl, T.nT, (by show 0 < 1000; decide), ?_⟩
      have h6d : (upd H5 p (.ins C dx (putF "_letters" (.str (tx (asc (L.map (·.1))))) []))) d = some (.dK (LD L)) := by rw [upd_ne hpd.symm]; exact s05 _ _ hd
      have h6p : (upd H5 p (.ins C dx (putF "_letters" (.str (tx (asc (L.map (·.1))))) []))) p = some (.ins C dx (putF "_letters" (.str (tx (asc (L.map (·.1))))) [])) := upd_same
      have k6 : ∀ b o, H b = some o → b ≠ p → (upd H5 p (.ins C dx (putF "_letters" (.str (tx (asc (L.map (·.1))))) []))) b = some o := fun b o e nb => by rw [upd_ne nb]; exact s05 _ _ e
      generalize (upd H5 p (.ins C dx (putF "_letters" (.str (tx (asc (L.map (·.1))))) []))) = H6 at h6d h6p k6
      have hlk : (putF ("_letters" : Str) (.str (tx (asc (L.map (·.1))))) []).lookup ("_letters" : Str) = some (.str (tx (asc (L.map (·.1))))) := by rw [lookup_putF, if_pos rfl]
      refine ⟨_, rfl, p, C, dx, _, _, rfl, h6p, T.cl, T.nT, hlk, _, rfl, fun e ne => ?_⟩
      have hep : p ≠ e := ne_of_none h6p ne
      have hed : d ≠ e := ne_of_none h6d ne
      have hsz : (tx (asc (L.map (·.1)))).cps.size = (asc (L.map (·.1))).length := tx_len _
      have hal : (asc (L.map (·.1))).length ≤ 900 := Nat.le_trans (asc_len _) (by rw [List.length_map]; exact hl)
      refine dc_it walk_str (fun i H2 => H2 = upd H6 e (.dK (LD (((asc (L.map (·.1))).take i).map fun c => (c, gD L c))))) rfl (fun _ _ _ _ => trivial) ?_ ?_
      · rintro i x H2 H3 hi rfl ⟨rfl, c, hc, rfl⟩
        have hc' : (asc (L.map (·.1)))[i]? = some c := by
          have z : ((asc (L.map (·.1))).toArray)[i]? = some c := hc
          rw [List.getElem?_toArray] at z
          exact z
        have hcm : c ∈ L.map (·.1) := (asc_mem _ c).mp (List.mem_of_getElem? hc')
        have hv : valV (LD L) (Sum.inr (sg c)) = some (.int (gD L c)) := by
          rw [valV_LD]
          obtain ⟨n, en⟩ := Option.isSome_iff_exists.mp (key_some.mp hcm)
          unfold gD
          rw [en]
          rfl
        refine ⟨rfl, _, rfl, _, rfl, _, rfl, d, .int (gD L c), rfl, ?_, _, Sum.inr (sg c), rfl, upd_same, ?_, ?_⟩
        · rw [← hv]
          exact DGet.k (k := Sum.inr (sg c)) (by rw [upd_ne hed]; exact h6d)
        · rw [LD_len, List.length_map, List.length_take]
          exact small1000 (by omega)
        · rw [upd_upd, putK_LD, List.take_add_one, hc', Option.toList_some, List.map_append]
          rw [putL_new fun hm => ?_]
          · rfl
          · rw [List.map_map] at hm
            obtain ⟨c2, hc2, e2⟩ := List.mem_map.mp hm
            obtain rfl : c2 = c := e2
            obtain ⟨j, hj, e3⟩ := List.getElem_of_mem hc2
            rw [List.getElem_take] at e3
            rw [List.length_take] at hj
            have hj2 : (asc (L.map (·.1)))[j]? = some c2 := by
              rw [List.getElem?_eq_getElem (by omega), e3]
            have := nd_ix (asc_nd (L.map (·.1))) hj2 hc'
            omega
      · rintro H2 rfl
        rw [hsz, List.take_length]
        have hin : (upd H6 e (.dK (LD ((asc (L.map (·.1))).map fun c => (c, gD L c))))) p = some (.ins C dx (putF "_letters" (.str (tx (asc (L.map (·.1))))) [])) := by rw [upd_ne hep]; exact h6p
        refine ⟨_, rfl, p, C, dx, _, rfl, hin, T.cl, T.nL, (by show 1 < 1000; decide), ?_⟩
        have fre : H e = none := by
          cases q : H e with
          | none => rfl
          | some o =>
            have := k6 _ _ q hep.symm
            rw [ne] at this
            cases this
        refine k _ ⟨dx, e, fre, ?_, ?_⟩ ⟨⟨dx, e, ?_, ?_⟩, canon_rise L, Nat.le_trans (canon_len L) hl⟩ fun b o eb nb => ?_
        · rw [upd_same, canon_keys]
          rfl
        · rw [upd_ne hep.symm, upd_same]
          rfl
        · rw [upd_same, canon_keys]
          rfl
        · rw [upd_ne hep.symm, upd_same]
          rfl
        · rw [upd_ne nb, upd_ne (ne_of_none (k6 _ _ eb nb) ne)]
          exact k6 _ _ eb nb
theorem ok_ini {C : Addr} (T : Cat K mg C) (M : Mf K C "__init__" "Catalog.__init__" sIni ["self", "lengths"]) (D1 : Df K mg "ascending_signs" sAsc ["text"]) (mso : mg "sorted" = none) (mst : mg "str" = none) : FnOk P w K mg base CX0 2 M.f M.fd ["self", "lengths"] (spIni C) :=
  (ok_iniF T M D1 mso mst).imp fun vs H Q E h => by
    obtain ⟨p, d, dx, L, rfl, h1, h2, h3, k⟩ := h
    exact ⟨p, d, dx, L, rfl, h1, h2, h3, fun H' _ => k H'⟩
end
end DO

namespace DO
open PySem PySem.Spec PyProof.Rows L2
section
variable {P : Program} {w : World} {K : PySem.W.Frag} {mg : Str → Option Value} {base : Heap}
/-! ### the methods of a catalog -/
abbrev sGet : Stmt := inClass sCls 3
abbrev sHas : Stmt := inClass sCls 5
abbrev sItr : Stmt := inClass sCls 4
abbrev sLet : Stmt := inClass sCls 1
abbrev sLen : Stmt := inClass sCls 2
theorem scGet : FnScope ["self", "at"] ["self", "at"] (defScope sGet) := ⟨rfl, rfl, rfl, by decide +kernel, rfl, by decide +kernel, by decide +kernel⟩
def spGet (C : Addr) : Sp := fun vs H Q _ => ∃ p L c, vs = [.ref p, .str (sg c)] ∧ CatAt C H p L ∧ Q (.int (gD L c)) H
theorem gD_of (L : List (Nat × Int)) (c : Nat) : (valV (LD L) (Sum.inr (sg c))).getD (.int 0) = .int (gD L c) := by
  rw [valV_LD]
  unfold gD
  cases getL L c <;> rfl
theorem ok_get {C : Addr} (T : Cat K mg C) (M : Mf K C "__getitem__" "Catalog.__getitem__" sGet ["self", "at"]) : FnOk P w K mg base CX0 1 M.f M.fd ["self", "at"] (spGet C) := by
  refine M.fn.ok scGet (fun vs H Q E h => ?_) (fun cdv A outer s H vs Q E hr h => ?_)
  · obtain ⟨p, L, c, rfl, _⟩ := h
    rfl
  · obtain ⟨p, L, c, rfl, hC, k⟩ := h
    have hu := hu_of hr
    obtain ⟨⟨dx, e, h1, h2⟩, up, sz⟩ := hC
    refine ⟨_, (pss_one (ps_ret (pe_dget2 hu (pe_fld (pv 0) rfl) (pv 1) pe_int ⟨rfl, rfl, rfl, rfl⟩))), ?_⟩
    refine ⟨_, rfl, p, C, dx, _, _, rfl, h1, T.cl, T.nL, flds_ln _ _, e, rfl, .inl ⟨_, .inl h2⟩, _, rfl, _, DGet.k (k := Sum.inr (sg c)) h2, ?_⟩
    rw [gD_of]
    exact k
theorem scHas : FnScope ["self", "x"] ["self", "x"] (defScope sHas) := ⟨rfl, rfl, rfl, by decide +kernel, rfl, by decide +kernel, by decide +kernel⟩
def spHas (C : Addr) : Sp := fun vs H Q _ => ∃ p L c, vs = [.ref p, .str (sg c)] ∧ CatAt C H p L ∧ Q (.bl (getL L c).isSome) H
theorem ok_has {C : Addr} (T : Cat K mg C) (M : Mf K C "__contains__" "Catalog.__contains__" sHas ["self", "x"]) : FnOk P w K mg base CX0 1 M.f M.fd ["self", "x"] (spHas C) := by
  refine M.fn.ok scHas (fun vs H Q E h => ?_) (fun cdv A outer s H vs Q E hr h => ?_)
  · obtain ⟨p, L, c, rfl, _⟩ := h
    rfl
  · obtain ⟨p, L, c, rfl, hC, k⟩ := h
    have hu := hu_of hr
    obtain ⟨⟨dx, e, h1, h2⟩, up, sz⟩ := hC
    refine ⟨_, (pss_one (ps_ret (pe_cmp (pc_din hu (pv 1) (pe_fld (pv 0) rfl))))), ?_⟩
    refine ⟨_, rfl, _, rfl, p, C, dx, _, _, rfl, h1, T.cl, T.nL, flds_ln _ _, e, _, rfl, DGet.k (k := Sum.inr (sg c)) h2, ?_⟩
    rw [valV_LD]
    cases q : getL L c with
    | none =>
      rw [q] at k
      exact k
    | some n =>
      rw [q] at k
      exact k
theorem scItr : FnScope ["self"] ["self"] (defScope sItr) := ⟨rfl, rfl, rfl, by decide +kernel, rfl, by decide +kernel, by decide +kernel⟩
theorem ok_itr {C : Addr} (T : Cat K mg C) (M : Mf K C "__iter__" "Catalog.__iter__" sItr ["self"]) (mi : mg "iter" = none) : FnN P w K mg base CX0 1 M.f M.fd ["self"] (spIterT C txtOf) := by
  refine fnN_of M.fn scItr (fun n vs H Q E h => ?_) (fun cdv A outer s H vs Q E hr h => ?_)
  · obtain ⟨a, dx, fs, x, rfl, _⟩ := h
    rfl
  · obtain ⟨a, dx, fs, x, rfl, h1, ht, k⟩ := h
    refine ⟨_, (pss_one (ps_ret (pe_callB cr_iterT (by rfl) mi (by decide +kernel) (pa_cons (pe_fld (pv 0) rfl) pa_nil)))), ?_⟩
    have hl : fs.lookup ("_letters" : Str) = some (.str x) := by
      unfold txtOf at ht
      split at ht
      · rename_i y e
        rw [e, Option.some.inj ht]
      · cases ht
    exact ⟨_, rfl, a, C, dx, _, _, rfl, h1, T.cl, T.nT, hl, x, rfl, k⟩
theorem scLet : FnScope ["self"] ["self"] (defScope sLet) := ⟨rfl, rfl, rfl, by decide +kernel, rfl, by decide +kernel, by decide +kernel⟩
theorem ok_let {C : Addr} (T : Cat K mg C) {f : Addr} {fd : FuncData} (M : Fun K "letters" "Catalog.letters" sLet f fd) : FnOk P w K mg base CX0 1 f fd ["self"] (getSp C "_letters") := by
  refine M.ok scLet (fun vs H Q E h => ?_) (fun cdv A outer s H vs Q E hr h => ?_)
  · obtain ⟨a, dx, fs, v, rfl, _⟩ := h
    rfl
  · obtain ⟨a, dx, fs, v, rfl, h1, hl, k⟩ := h
    refine ⟨_, (pss_one (ps_ret (pe_fld (pv 0) rfl))), ?_⟩
    exact ⟨_, rfl, a, C, dx, _, _, rfl, h1, T.cl, T.nT, hl, k⟩
theorem scLen : FnScope ["self", "text", "char"] ["self", "text"] (defScope sLen) := ⟨rfl, rfl, rfl, by decide +kernel, rfl, by decide +kernel, by decide +kernel⟩
def sumG (L : List (Nat × Int)) (ds : List Nat) : Int := (ds.map (gD L)).sum
def spLen (C : Addr) : Sp := fun vs H Q _ => ∃ p L ds, vs = [.ref p, .str (tx ds)] ∧ CatAt C H p L ∧ ds.length ≤ 1000 ∧ ∀ H', Same H H' → Q (.int (sumG L ds)) H'
theorem ok_len {C : Addr} (T : Cat K mg C) (M : Mf K C "length" "Catalog.length" sLen ["self", "text"]) (ms : mg "sum" = none) : FnOk P w K mg base CX0 1 M.f M.fd ["self", "text"] (spLen C) := by
  refine M.fn.ok scLen (fun vs H Q E h => ?_) (fun cdv A outer s H vs Q E hr h => ?_)
  · obtain ⟨p, L, ds, rfl, _⟩ := h
    rfl
  · obtain ⟨p, L, ds, rfl, hC, hl, k⟩ := h
    have hu := hu_of hr
    obtain ⟨⟨dx, e, h1, h2⟩, up, sz⟩ := hC
    refine ⟨_, (pss_one (ps_ret (pe_callB (cr_sum rfl) (by rfl) ms (by decide +kernel) (pa_cons (pe_lc (own := [("char", 2)]) (g := gName 2) (tt := tYes) rfl scLen.nd (pi_str (pv 1)) (blkOk_by (N := ["self", "text", "char"]) (sc := defScope sLen) (by decide +kernel)) (fun _ _ _ _ _ => pg_name (i := 2) scLen.nd rfl (Or.inl rfl)) (fun _ _ _ _ _ => pts_nil) (fun _ _ _ _ _ => (pe_dget2 hu (show PE _ _ (tFld K (tVar 0) "_lengths") from (pe_fld (pv 0) rfl)) (pv 2) pe_int ⟨rfl, rfl, rfl, rfl⟩))) pa_nil)))), ?_⟩
    have hsz : (tx ds).cps.size = ds.length := tx_len ds
    refine ⟨_, rfl, tx ds, rfl, fun B nB => lc_it walk_str (fun i H2 => H2 = upd H B (.lst (((ds.take i).map (gD L)).map V.int))) rfl (fun _ _ _ _ => trivial) ?_ ?_⟩
    · rintro i x H2 H3 hi rfl ⟨rfl, c, hc, rfl⟩
      have hc' : ds[i]? = some c := by
        have z : (ds.toArray)[i]? = some c := hc
        rw [List.getElem?_toArray] at z
        exact z
      have h1' : (upd H B (.lst (((ds.take i).map (gD L)).map V.int))) p = some (.ins C dx (flds (tx (L.map (·.1))) e)) := by rw [upd_ne (ne_of_none h1 nB)]; exact h1
      have h2' : (upd H B (.lst (((ds.take i).map (gD L)).map V.int))) e = some (.dK (LD L)) := by rw [upd_ne (ne_of_none h2 nB)]; exact h2
      refine ⟨rfl, ?_⟩
      refine ⟨_, rfl, p, C, dx, _, _, rfl, h1', T.cl, T.nL, flds_ln _ _, e, rfl, .inl ⟨_, .inl h2'⟩, _, rfl, _, DGet.k (k := Sum.inr (sg c)) h2', _, upd_same, ?_, ?_⟩
      · rw [List.length_map, List.length_map, List.length_take]
        exact small1000 (by omega)
      · rw [gD_of, upd_upd, List.take_add_one, hc', Option.toList_some, List.map_append, List.map_append]
        rfl
    · rintro H2 rfl
      rw [hsz, List.take_length]
      exact ⟨B, ds.map (gD L), rfl, sql_of upd_same, k _ (same_upd nB)⟩
end
end DO

namespace DO
open PySem PySem.Spec PyProof.Rows L2
section
variable {P : Program} {w : World} {K : PySem.W.Frag} {mg : Str → Option Value} {base : Heap}
/-! ### a dict filled by a function of its keys -/
def fillG (g : Nat → Int) (ds : List Nat) : List (Nat × Int) := ds.foldl (fun L c => putL L c (g c)) []
theorem fillG_snoc (g : Nat → Int) (ds : List Nat) (c : Nat) : fillG g (ds ++ [c]) = putL (fillG g ds) c (g c) := by
  unfold fillG
  rw [List.foldl_append]
  rfl
theorem fillG_fold (g : Nat → Int) (ds : List Nat) : ∀ L : List (Nat × Int), (L.map (·.1)).Nodup → ((ds.foldl (fun L c => putL L c (g c)) L).map (·.1)).Nodup ∧ (∀ j, getL (ds.foldl (fun L c => putL L c (g c)) L) j = if j ∈ ds then some (g j) else getL L j) ∧ (ds.foldl (fun L c => putL L c (g c)) L).length ≤ L.length + ds.length := by
  induction ds with
  | nil =>
    intro L h
    exact ⟨h, fun j => by simp, by simp⟩
  | cons c r ih =>
    intro L h
    obtain ⟨h1, h2, h3⟩ := ih (putL L c (g c)) (putL_nd h)
    refine ⟨h1, fun j => ?_, ?_⟩
    · rw [List.foldl_cons, h2, getL_put]
      by_cases a : j ∈ r
      · simp [a]
      · by_cases b : j = c
        · subst b
          simp [a]
        · simp [a, b]
    · have := @putL_len L c (g c)
      rw [List.foldl_cons, List.length_cons]
      omega
theorem fillG_get (g : Nat → Int) (ds : List Nat) (j : Nat) : getL (fillG g ds) j = if j ∈ ds then some (g j) else none := (fillG_fold g ds [] List.nodup_nil).2.1 j
theorem fillG_nd (g : Nat → Int) (ds : List Nat) : ((fillG g ds).map (·.1)).Nodup := (fillG_fold g ds [] List.nodup_nil).1
theorem fillG_len (g : Nat → Int) (ds : List Nat) : (fillG g ds).length ≤ ds.length := by
  have h := (fillG_fold g ds [] List.nodup_nil).2.2
  unfold fillG
  simpa using h
theorem mk_rise (ks : List Nat) (g : Nat → Int) : ((mk ks g).map (·.1)).Pairwise (· < ·) := by
  rw [mk_keys]
  exact asc_srt ks
theorem fillG_canon (g : Nat → Int) (ds : List Nat) : canon (fillG g ds) = mk ds g :=
  (canon_ext fun c => (fillG_get g ds c).trans (mk_get ds g c).symm).trans (rise_canon (mk_rise ds g))
theorem tx_app (a b : List Nat) : tx a ++ tx b = tx (a ++ b) := by
  show (⟨a.toArray ++ b.toArray⟩ : Str) = ⟨(a ++ b).toArray⟩
  simp
theorem tx_at {ds : List Nat} {i c : Nat} (hc : (tx ds).cps[i]? = some c) : ds[i]? = some c := by
  have z : (ds.toArray)[i]? = some c := hc
  rw [List.getElem?_toArray] at z
  exact z
/-- a new instance, filled by __init__ -/
theorem made_same {C x dx : Addr} {H H' : Hp} (nx : H x = none) (nd : H dx = none) (k : ∀ b o, (upd (upd H dx (.own x)) x (.ins C dx [])) b = some o → b ≠ x → H' b = some o) : Same H H' := Same.made nx nd k
theorem TyX_cat {C : Addr} (T : Cat K mg C) {H : Hp} {p : Addr} {L : List (Nat × Int)} (h : CatAt C H p L) : TyX K H (.ref p) (.ref C) := by
  obtain ⟨⟨dx, e, h1, _⟩, _, _⟩ := h
  exact .base (.ins h1 T.cl T.ha T.hn T.ht T.hm)
theorem gD_bd {L : List (Nat × Int)} {B : Nat} (h : ∀ p ∈ L, p.2.natAbs < 2 ^ B) (c : Nat) : (gD L c).natAbs < 2 ^ B := by
  unfold gD
  cases e : getL L c with
  | none => exact Nat.two_pow_pos B
  | some n => exact h _ (getL_mem e)
def spBin (C : Addr) (f : Int → Int → Int) : Sp := fun vs H Q _ => ∃ p q L N, vs = [.ref p, .ref q] ∧ CatAt C H p L ∧ CatAt C H q N ∧ L.length + N.length ≤ 900 ∧ ∀ r H', H r = none → Same H H' → CatAt C H' r (mk (L.map (·.1) ++ N.map (·.1)) fun c => f (gD L c) (gD N c)) → Q (.ref r) H'
abbrev sAdd : Stmt := inClass sCls 6
abbrev sSub : Stmt := inClass sCls 7
abbrev sMul : Stmt := inClass sCls 8
abbrev sRmu : Stmt := inClass sCls 9
abbrev sEq : Stmt := inClass sCls 10
theorem scAdd : FnScope ["self", "other", "char"] ["self", "other"] (defScope sAdd) := ⟨rfl, rfl, rfl, by decide +kernel, rfl, by decide +kernel, by decide +kernel⟩
theorem ok_add {C : Addr} (T : Cat K mg C) (M : Mf K C "__add__" "Catalog.__add__" sAdd ["self", "other"]) (MG : Mf K C "__getitem__" "Catalog.__getitem__" sGet ["self", "at"]) (MI : Mf K C "__init__" "Catalog.__init__" sIni ["self", "lengths"]) (MK : Mk K C MI.f)
    (GI : FnOk P w K mg base CX0 2 MI.f MI.fd ["self", "lengths"] (spIni C)) (mis : mg "isinstance" = none) : FnOk P w K mg base CX0 4 M.f M.fd ["self", "other"] (spBin C fun a b => a + b) := by
  have GG : FnOk P w K mg base CX0 1 MG.f MG.fd ["self", "at"] (spGet C) := ok_get T MG
  refine M.fn.ok scAdd (fun vs H Q E h => ?_) (fun cdv A outer s H vs Q E hr h => ?_)
  · obtain ⟨p, q, L, N, rfl, _⟩ := h
    rfl
  · obtain ⟨p, q, L, N, rfl, hp, hq, hl, k⟩ := h
    have hr3 : Room (2 + 1) _ := hr
    have hr2 : Room (1 + 1) _ := hr.mono (by decide)
    refine ⟨_, (pss_cons (ps_if (pt_not (pt_val (pe_callB call_isi (by rfl) mis (by decide +kernel) (pa_cons (pv 1) (pa_cons (pe_glob (v := .ref C) (by rfl) T.mgC rfl) pa_nil)))))
      (pss_one (ps_never))
      pss_nil)
      (pss_one (ps_ret (pe_make MK GI hr3 rfl T.mgC MI.bd .nil pass0 (pa_cons (pe_dc (own := [("char", 2)]) (g := gName 2) (tt := tYes) rfl scAdd.nd (pi_str (pe_op op_add_str (pe_fld (pv 0) rfl) (pe_fld (pv 1) rfl))) (blkOk_by (N := ["self", "other", "char"]) (sc := defScope sAdd) (by decide +kernel)) (fun _ _ _ _ _ => pg_name (i := 2) scAdd.nd rfl (Or.inl rfl)) (fun _ _ _ _ _ => pts_nil) (fun _ _ _ _ _ => (pv 2)) (fun _ _ _ _ _ => (pe_op op_addL (pe_subO MG.me MG.fn GG hr2 MG.bd pass0 (pv 0) (pv 2)) (pe_subO MG.me MG.fn GG hr2 MG.bd pass0 (pv 1) (pv 2))))) pa_nil))))), ?_⟩
    refine ⟨_, rfl, _, _, _, _, true, rfl, .own C, TyX_cat T hq, T.kC, true, rfl, ?_⟩
    refine iteF' rfl ?_
    obtain ⟨⟨dx, e, h1, h2⟩, up, sz⟩ := id hp
    obtain ⟨⟨dx', e', h1', h2'⟩, up', sz'⟩ := id hq
    refine ⟨_, rfl, p, C, dx, _, _, rfl, h1, T.cl, T.nT, flds_lt _ _, _, rfl, q, C, dx', _, _, rfl, h1', T.cl, T.nT, flds_lt _ _, _, _, rfl, rfl, ?_, ?_⟩
    · rw [tx_len, tx_len, List.length_map, List.length_map]
      exact Nat.le_of_lt (small1000 (by omega))
    rw [tx_app]
    generalize hds : L.map (·.1) ++ N.map (·.1) = ds
    have hdl : ds.length ≤ 900 := by
      rw [← hds, List.length_append, List.length_map, List.length_map]
      exact hl
    have hsz : (tx ds).cps.size = ds.length := tx_len ds
    refine ⟨tx ds, rfl, fun D nD => dc_it walk_str (fun i H2 => H2 = upd H D (.dK (LD (fillG (fun c => gD L c + gD N c) (ds.take i))))) rfl (fun _ _ _ _ => trivial) ?_ ?_⟩
    · rintro i x H2 H3 hi rfl ⟨rfl, c, hc, rfl⟩
      have hc' := tx_at hc
      have sm := same_upd (o := .dK (LD (fillG (fun c => gD L c + gD N c) (ds.take i)))) nD
      refine ⟨rfl, _, rfl, _, rfl, _, rfl, p, dx, _, rfl, sm _ _ h1, p, L, c, rfl, hp.keep sm, _, rfl, _, rfl, q, dx', _, rfl, sm _ _ h1', q, N, c, rfl, hq.keep sm, _, _, rfl, rfl, fun r er => ⟨_, Sum.inr (sg c), rfl, upd_same, ?_, ?_⟩⟩
      · rw [LD_len]
        have := fillG_len (fun c => gD L c + gD N c) (ds.take i)
        rw [List.length_take] at this
        exact small1000 (by omega)
      · rw [er, upd_upd, putK_LD, List.take_add_one, hc', Option.toList_some, fillG_snoc]
    · rintro H2 rfl
      rw [hsz, List.take_length]
      intro x dxx nx ndx hne
      have nx' : H x = none := (same_upd nD).free nx
      have sm := same_upd (o := .dK (LD (fillG (fun c => gD L c + gD N c) ds))) nD
      have hDx : D ≠ x := ne_of_none upd_same nx
      have hDdx : D ≠ dxx := ne_of_none upd_same ndx
      refine ⟨x, D, dxx, _, rfl, upd_same, by rw [upd_ne hDx, upd_ne hDdx, upd_same], Nat.le_trans (fillG_len _ _) hdl, fun H' hC kp => ⟨rfl, ?_⟩⟩
      rw [fillG_canon, ← hds] at hC
      exact k x H' nx' (sm.trans (made_same nx ndx kp)) hC
theorem scSub : FnScope ["self", "other", "char"] ["self", "other"] (defScope sSub) := ⟨rfl, rfl, rfl, by decide +kernel, rfl, by decide +kernel, by decide +kernel⟩
theorem ok_sub {C : Addr} (T : Cat K mg C) (M : Mf K C "__sub__" "Catalog.__sub__" sSub ["self", "other"]) (MG : Mf K C "__getitem__" "Catalog.__getitem__" sGet ["self", "at"]) (MI : Mf K C "__init__" "Catalog.__init__" sIni ["self", "lengths"]) (MK : Mk K C MI.f)
    (GI : FnOk P w K mg base CX0 2 MI.f MI.fd ["self", "lengths"] (spIni C)) (mis : mg "isinstance" = none) : FnOk P w K mg base CX0 4 M.f M.fd ["self", "other"] (spBin C fun a b => a - b) := by
  have GG : FnOk P w K mg base CX0 1 MG.f MG.fd ["self", "at"] (spGet C) := ok_get T MG
  refine M.fn.ok scSub (fun vs H Q E h => ?_) (fun cdv A outer s H vs Q E hr h => ?_)
  · obtain ⟨p, q, L, N, rfl, _⟩ := h
    rfl
  · obtain ⟨p, q, L, N, rfl, hp, hq, hl, k⟩ := h
    have hr3 : Room (2 + 1) _ := hr
    have hr2 : Room (1 + 1) _ := hr.mono (by decide)
    refine ⟨_, (pss_cons (ps_if (pt_not (pt_val (pe_callB call_isi (by rfl) mis (by decide +kernel) (pa_cons (pv 1) (pa_cons (pe_glob (v := .ref C) (by rfl) T.mgC rfl) pa_nil)))))
      (pss_one (ps_never))
      pss_nil)
      (pss_one (ps_ret (pe_make MK GI hr3 rfl T.mgC MI.bd .nil pass0 (pa_cons (pe_dc (own := [("char", 2)]) (g := gName 2) (tt := tYes) rfl scSub.nd (pi_str (pe_op op_add_str (pe_fld (pv 0) rfl) (pe_fld (pv 1) rfl))) (blkOk_by (N := ["self", "other", "char"]) (sc := defScope sSub) (by decide +kernel)) (fun _ _ _ _ _ => pg_name (i := 2) scSub.nd rfl (Or.inl rfl)) (fun _ _ _ _ _ => pts_nil) (fun _ _ _ _ _ => (pv 2)) (fun _ _ _ _ _ => (pe_op op_subL (pe_subO MG.me MG.fn GG hr2 MG.bd pass0 (pv 0) (pv 2)) (pe_subO MG.me MG.fn GG hr2 MG.bd pass0 (pv 1) (pv 2))))) pa_nil))))), ?_⟩
    refine ⟨_, rfl, _, _, _, _, true, rfl, .own C, TyX_cat T hq, T.kC, true, rfl, ?_⟩
    refine iteF' rfl ?_
    obtain ⟨⟨dx, e, h1, h2⟩, up, sz⟩ := id hp
    obtain ⟨⟨dx', e', h1', h2'⟩, up', sz'⟩ := id hq
    refine ⟨_, rfl, p, C, dx, _, _, rfl, h1, T.cl, T.nT, flds_lt _ _, _, rfl, q, C, dx', _, _, rfl, h1', T.cl, T.nT, flds_lt _ _, _, _, rfl, rfl, ?_, ?_⟩
    · rw [tx_len, tx_len, List.length_map, List.length_map]
      exact Nat.le_of_lt (small1000 (by omega))
    rw [tx_app]
    generalize hds : L.map (·.1) ++ N.map (·.1) = ds
    have hdl : ds.length ≤ 900 := by
      rw [← hds, List.length_append, List.length_map, List.length_map]
      exact hl
    have hsz : (tx ds).cps.size = ds.length := tx_len ds
    refine ⟨tx ds, rfl, fun D nD => dc_it walk_str (fun i H2 => H2 = upd H D (.dK (LD (fillG (fun c => gD L c - gD N c) (ds.take i))))) rfl (fun _ _ _ _ => trivial) ?_ ?_⟩
    · rintro i x H2 H3 hi rfl ⟨rfl, c, hc, rfl⟩
      have hc' := tx_at hc
      have sm := same_upd (o := .dK (LD (fillG (fun c => gD L c - gD N c) (ds.take i)))) nD
      refine ⟨rfl, _, rfl, _, rfl, _, rfl, p, dx, _, rfl, sm _ _ h1, p, L, c, rfl, hp.keep sm, _, rfl, _, rfl, q, dx', _, rfl, sm _ _ h1', q, N, c, rfl, hq.keep sm, _, _, rfl, rfl, fun r er => ⟨_, Sum.inr (sg c), rfl, upd_same, ?_, ?_⟩⟩
      · rw [LD_len]
        have := fillG_len (fun c => gD L c - gD N c) (ds.take i)
        rw [List.length_take] at this
        exact small1000 (by omega)
      · rw [er, upd_upd, putK_LD, List.take_add_one, hc', Option.toList_some, fillG_snoc]
    · rintro H2 rfl
      rw [hsz, List.take_length]
      intro x dxx nx ndx hne
      have nx' : H x = none := (same_upd nD).free nx
      have sm := same_upd (o := .dK (LD (fillG (fun c => gD L c - gD N c) ds))) nD
      have hDx : D ≠ x := ne_of_none upd_same nx
      have hDdx : D ≠ dxx := ne_of_none upd_same ndx
      refine ⟨x, D, dxx, _, rfl, upd_same, by rw [upd_ne hDx, upd_ne hDdx, upd_same], Nat.le_trans (fillG_len _ _) hdl, fun H' hC kp => ⟨rfl, ?_⟩⟩
      rw [fillG_canon, ← hds] at hC
      exact k x H' nx' (sm.trans (made_same nx ndx kp)) hC
end
end DO

namespace DO
open PySem PySem.Spec PyProof.Rows L2
section
variable {P : Program} {w : World} {K : PySem.W.Frag} {mg : Str → Option Value} {base : Heap}
theorem scMul : FnScope ["self", "other", "char"] ["self", "other"] (defScope sMul) := ⟨rfl, rfl, rfl, by decide +kernel, rfl, by decide +kernel, by decide +kernel⟩
def spMul (C : Addr) : Sp := fun vs H Q _ => ∃ p L, ∃ t : Int, vs = [.ref p, .int t] ∧ CatAt C H p L ∧ (∀ x ∈ L, x.2.natAbs < 2 ^ 1000) ∧ t.natAbs < 2 ^ 1000 ∧ ∀ r H', H r = none → Same H H' → CatAt C H' r (mk (L.map (·.1)) fun c => gD L c * t) → Q (.ref r) H'
theorem ok_mul {C : Addr} (T : Cat K mg C) (M : Mf K C "__mul__" "Catalog.__mul__" sMul ["self", "other"]) (MG : Mf K C "__getitem__" "Catalog.__getitem__" sGet ["self", "at"]) (MI : Mf K C "__init__" "Catalog.__init__" sIni ["self", "lengths"]) (MK : Mk K C MI.f)
    (GI : FnOk P w K mg base CX0 2 MI.f MI.fd ["self", "lengths"] (spIni C)) (mis : mg "isinstance" = none) (mint : mg "int" = none) : FnOk P w K mg base CX0 4 M.f M.fd ["self", "other"] (spMul C) := by
  have GG : FnOk P w K mg base CX0 1 MG.f MG.fd ["self", "at"] (spGet C) := ok_get T MG
  refine M.fn.ok scMul (fun vs H Q E h => ?_) (fun cdv A outer s H vs Q E hr h => ?_)
  · obtain ⟨p, L, t, rfl, _⟩ := h
    rfl
  · obtain ⟨p, L, t, rfl, hp, hb, ht, k⟩ := h
    have hr3 : Room (2 + 1) _ := hr
    have hr2 : Room (1 + 1) _ := hr.mono (by decide)
    refine ⟨_, (pss_cons (ps_if (pt_not (pt_val (pe_callB call_isi (by rfl) mis (by decide +kernel) (pa_cons (pv 1) (pa_cons (pe_bltn (v := .ty "int") (by rfl) mint (by decide +kernel) rfl) pa_nil)))))
      (pss_one (ps_never))
      pss_nil)
      (pss_one (ps_ret (pe_make MK GI hr3 rfl T.mgC MI.bd .nil pass0 (pa_cons (pe_dc (own := [("char", 2)]) (g := gName 2) (tt := tYes) rfl scMul.nd (pi_str (pe_fld (pv 0) rfl)) (blkOk_by (N := ["self", "other", "char"]) (sc := defScope sMul) (by decide +kernel)) (fun _ _ _ _ _ => pg_name (i := 2) scMul.nd rfl (Or.inl rfl)) (fun _ _ _ _ _ => pts_nil) (fun _ _ _ _ _ => (pv 2)) (fun _ _ _ _ _ => (pe_op op_mulW (pe_subO MG.me MG.fn GG hr2 MG.bd pass0 (pv 0) (pv 2)) (pv 1)))) pa_nil))))), ?_⟩
    refine ⟨_, rfl, _, _, _, _, true, rfl, .ty "int", .base (.int t), kit_ty (by decide +kernel), true, rfl, ?_⟩
    refine iteF' rfl ?_
    obtain ⟨⟨dx, e, h1, h2⟩, up, sz⟩ := id hp
    refine ⟨_, rfl, p, C, dx, _, _, rfl, h1, T.cl, T.nT, flds_lt _ _, ?_⟩
    generalize hds : L.map (·.1) = ds
    have hdl : ds.length ≤ 900 := by
      rw [← hds, List.length_map]
      exact sz
    have hsz : (tx ds).cps.size = ds.length := tx_len ds
    refine ⟨tx ds, rfl, fun D nD => dc_it walk_str (fun i H2 => H2 = upd H D (.dK (LD (fillG (fun c => gD L c * t) (ds.take i))))) rfl (fun _ _ _ _ => trivial) ?_ ?_⟩
    · rintro i x H2 H3 hi rfl ⟨rfl, c, hc, rfl⟩
      have hc' := tx_at hc
      have sm := same_upd (o := .dK (LD (fillG (fun c => gD L c * t) (ds.take i)))) nD
      refine ⟨rfl, _, rfl, _, rfl, _, rfl, p, dx, _, rfl, sm _ _ h1, p, L, c, rfl, hp.keep sm, _, rfl, _, _, rfl, rfl, wide_mul (gD_bd hb c) ht (by decide) (by decide) (by decide), ⟨_, Sum.inr (sg c), rfl, upd_same, ?_, ?_⟩⟩
      · rw [LD_len]
        have := fillG_len (fun c => gD L c * t) (ds.take i)
        rw [List.length_take] at this
        exact small1000 (by omega)
      · rw [upd_upd, putK_LD, List.take_add_one, hc', Option.toList_some, fillG_snoc]
    · rintro H2 rfl
      rw [hsz, List.take_length]
      intro x dxx nx ndx hne
      have nx' : H x = none := (same_upd nD).free nx
      have sm := same_upd (o := .dK (LD (fillG (fun c => gD L c * t) ds))) nD
      have hDx : D ≠ x := ne_of_none upd_same nx
      have hDdx : D ≠ dxx := ne_of_none upd_same ndx
      refine ⟨x, D, dxx, _, rfl, upd_same, by rw [upd_ne hDx, upd_ne hDdx, upd_same], Nat.le_trans (fillG_len _ _) hdl, fun H' hC kp => ⟨rfl, ?_⟩⟩
      rw [fillG_canon, ← hds] at hC
      exact k x H' nx' (sm.trans (made_same nx ndx kp)) hC
theorem scRmu : FnScope ["self", "other"] ["self", "other"] (defScope sRmu) := ⟨rfl, rfl, rfl, by decide +kernel, rfl, by decide +kernel, by decide +kernel⟩
theorem ok_rmu {C : Addr} (T : Cat K mg C) (M : Mf K C "__rmul__" "Catalog.__rmul__" sRmu ["self", "other"]) (MM : Mf K C "__mul__" "Catalog.__mul__" sMul ["self", "other"]) (GM : FnOk P w K mg base CX0 4 MM.f MM.fd ["self", "other"] (spMul C)) :
    FnOk P w K mg base CX0 5 M.f M.fd ["self", "other"] (spMul C) := by
  refine M.fn.ok scRmu (fun vs H Q E h => ?_) (fun cdv A outer s H vs Q E hr h => ?_)
  · obtain ⟨p, L, t, rfl, _⟩ := h
    rfl
  · obtain ⟨p, L, t, rfl, hp, hb, ht, k⟩ := h
    have hr4 : Room 4 _ := hr
    refine ⟨_, (pss_one (ps_ret (pe_op (op_binI (op := .Mult) rfl rfl MM.me T.sf M.me.at_ (.inr ⟨_, rfl⟩) T.im T.ir T.sI GM hr4 MM.bd pass0) (pv 0) (pv 1)))), ?_⟩
    obtain ⟨⟨dx, e, h1, h2⟩, up, sz⟩ := id hp
    exact ⟨_, rfl, _, rfl, p, dx, _, t, rfl, rfl, h1, p, L, t, rfl, hp, hb, ht, k⟩
theorem scEq : FnScope ["self", "other"] ["self", "other"] (defScope sEq) := ⟨rfl, rfl, rfl, by decide +kernel, rfl, by decide +kernel, by decide +kernel⟩
def spEqC (K : PySem.W.Frag) (C : Addr) : Sp := fun vs H Q _ => ∃ p L y, vs = [.ref p, y] ∧ CatAt C H p L ∧ ((∃ q N, y = .ref q ∧ CatAt C H q N ∧ Q (.bl (decide (L = N))) H) ∨ ∃ Ty, TyB H y Ty ∧ PySem.W.kitOne K (.type Ty) (.ref C) = some false ∧ Q (.bl false) H)
theorem tyB_X {H : Hp} {y : V} {Ty : String} (h : TyB H y Ty) : TyX K H y (.type Ty) := by
  cases h with
  | non => exact .base .non
  | int i => exact .base (.int i)
  | str x => exact .base (.str x)
  | lst e => exact .base (.lst e)
  | dK e => exact .base (.dK e)
theorem ok_eq {C : Addr} (T : Cat K mg C) (M : Mf K C "__eq__" "Catalog.__eq__" sEq ["self", "other"]) (mis : mg "isinstance" = none) : FnOk P w K mg base CX0 1 M.f M.fd ["self", "other"] (spEqC K C) := by
  refine M.fn.ok scEq (fun vs H Q E h => ?_) (fun cdv A outer s H vs Q E hr h => ?_)
  · obtain ⟨p, L, y, rfl, _⟩ := h
    rfl
  · obtain ⟨p, L, y, rfl, hp, hy⟩ := h
    have hu : (A.deeper (envOfC "Catalog.__eq__" (defScope sEq) s.heap.objs.size M.f cdv)).units < cLine := hr.units0
    obtain ⟨⟨dx, e, h1, h2⟩, up, sz⟩ := id hp
    refine ⟨_, (pss_one (ps_ret (pe_and (pe_callB call_isi (by rfl) mis (by decide +kernel) (pa_cons (pv 1) (pa_cons (pe_glob (v := .ref C) (by rfl) T.mgC rfl) pa_nil))) (pe_one (pe_cmpR (op_eqLD hu) (pe_fld (pv 0) rfl) (pe_fld (pv 1) rfl) (nomark _)))))), ?_⟩
    rcases hy with ⟨q, N, rfl, hq, k⟩ | ⟨Ty, ty, hk, k⟩
    · obtain ⟨⟨dx', e', h1', h2'⟩, up', sz'⟩ := id hq
      refine ⟨_, rfl, _, _, _, _, true, rfl, .own C, TyX_cat T hq, T.kC, true, rfl, ?_⟩
      refine iteT' rfl ?_
      refine ⟨_, rfl, p, C, dx, _, _, rfl, h1, T.cl, T.nL, flds_ln _ _, _, rfl, q, C, dx', _, _, rfl, h1', T.cl, T.nL, flds_ln _ _, e, e', L, N, rfl, rfl, h2, h2', ?_⟩
      rw [eqLD_iff hp.nd hq.nd, rise_canon up, rise_canon up']
      exact k
    · refine ⟨_, rfl, _, _, _, _, false, rfl, .own C, tyB_X ty, hk, false, rfl, ?_⟩
      exact iteF' rfl k
end
end DO

namespace DO
open PySem PySem.Spec PyProof.Rows L2
section
variable {P : Program} {w : World} {K : PySem.W.Frag} {mg : Str → Option Value} {base : Heap}
/-! ### the law's own dicts of lengths -/
structure DA (H : Hp) (d : Addr) (L : List (Nat × Int)) : Prop where
  dk : H d = some (.dK (LD L))
  nd : (L.map (·.1)).Nodup
  sz : L.length ≤ 900
theorem DA.keep {H H' : Hp} {d : Addr} {L : List (Nat × Int)} (h : DA H d L) (k : Same H H') : DA H' d L := ⟨k _ _ h.dk, h.nd, h.sz⟩
theorem DA.kp {a : Addr} {H H' : Hp} {d : Addr} {L : List (Nat × Int)} {xs : List V} (h : DA H d L) (k : Kp a H H') (ha : H a = some (.lst xs)) : DA H' d L := ⟨k _ _ h.dk (ne_of h.dk ha (fun z => nomatch z)), h.nd, h.sz⟩
theorem keys_SgL (L : List (Nat × Int)) : (LD L).map (fun kv => kV kv.1) = SgL (L.map (·.1)) := by
  unfold LD SgL
  rw [List.map_map, List.map_map]
  rfl
theorem get_of {L : List (Nat × Int)} {c : Nat} (h : c ∈ L.map (·.1)) : valV (LD L) (Sum.inr (sg c)) = some (.int (gD L c)) := by
  rw [valV_LD]
  obtain ⟨n, en⟩ := Option.isSome_iff_exists.mp (key_some.mp h)
  unfold gD
  rw [en]
  rfl
theorem SgL_get {cs : List Nat} {i : Nat} {y : V} (h : (SgL cs)[i]? = some y) : ∃ c, cs[i]? = some c ∧ y = .str (sg c) := by
  unfold SgL at h
  rw [List.getElem?_map] at h
  cases e : cs[i]? with
  | none =>
    rw [e] at h
    cases h
  | some c =>
    rw [e] at h
    exact ⟨c, rfl, (Option.some.inj h).symm⟩
abbrev sIsI : Stmt := top 13
theorem scIsI : FnScope ["_law_value"] ["_law_value"] (defScope sIsI) := ⟨rfl, rfl, rfl, by decide +kernel, rfl, by decide +kernel, by decide +kernel⟩
def spIsI : Sp := fun vs H Q _ => ∃ n : Int, vs = [.int n] ∧ Q (.bl true) H
theorem ok_isI (D : Df K mg "_law_is_integer" sIsI ["_law_value"]) (mis : mg "isinstance" = none) (mint : mg "int" = none) (mbo : mg "bool" = none) : FnOk P w K mg base CX0 1 D.f D.fd ["_law_value"] spIsI := by
  refine D.fn.ok scIsI (fun vs H Q E h => ?_) (fun cdv A outer s H vs Q E hr h => ?_)
  · obtain ⟨n, rfl, _⟩ := h
    rfl
  · obtain ⟨n, rfl, k⟩ := h
    refine ⟨_, (pss_one (ps_ret (pe_and (pe_callB call_isi (by rfl) mis (by decide +kernel) (pa_cons (pv 0) (pa_cons (pe_bltn (v := .ty "int") (by rfl) mint (by decide +kernel) rfl) pa_nil))) (pe_one (pe_not (pe_callB call_isi (by rfl) mis (by decide +kernel) (pa_cons (pv 0) (pa_cons (pe_bltn (v := .ty "bool") (by rfl) mbo (by decide +kernel) rfl) pa_nil)))))))), ?_⟩
    refine ⟨_, rfl, _, _, _, _, true, rfl, .ty "int", .base (.int n), kit_ty (by decide +kernel), true, rfl, ?_⟩
    refine iteT' rfl ?_
    exact ⟨_, rfl, _, _, _, _, false, rfl, .ty "bool", .base (.int n), kit_ty (by decide +kernel), false, rfl, k⟩
abbrev sTurned : Stmt := top 12
theorem scTurned : FnScope ["_law_lengths_here", "_law_turned_here", "_law_char"] ["_law_lengths_here"] (defScope sTurned) := ⟨rfl, rfl, rfl, by decide +kernel, rfl, by decide +kernel, by decide +kernel⟩
def spTurned : Sp := fun vs H Q _ => ∃ d L, vs = [.ref d] ∧ DA H d L ∧ ∀ e H', H e = none → Same H H' → DA H' e (fillG (gD L) (L.map (·.1)).reverse) → Q (.ref e) H'
theorem fillG_sz (g : Nat → Int) {ds : List Nat} {n : Nat} (h : ds.length ≤ n) : (fillG g ds).length ≤ n := Nat.le_trans (fillG_len g ds) h
theorem ok_turned (D : Df K mg "_law_turned" sTurned ["_law_lengths_here"]) (ml : mg "list" = none) : FnOk P w K mg base CX0 1 D.f D.fd ["_law_lengths_here"] spTurned := by
  refine D.fn.ok scTurned (fun vs H Q E h => ?_) (fun cdv A outer s H vs Q E hr h => ?_)
  · obtain ⟨d, L, rfl, _⟩ := h
    rfl
  · obtain ⟨d, L, rfl, hd, k⟩ := h
    have hu := hu_of hr
    refine ⟨_, (pss_cons (ps_set (i := 1) scTurned.nd rfl (.inl rfl) pe_dnewK)
      (pss_cons (ps_for PassesOwn.never rfl (pi_list (pe_revL (pe_callTy (call_list_dK rfl) (by rfl) ml (by decide +kernel) (pa_cons (pv 0) pa_nil)))) (pg_name (i := 2) scTurned.nd rfl (Or.inl rfl))
      (pss_one (ps_dput hu (pv 1) (pv 2) (pe_dget hu (pv 0) (pv 2) (fun _ _ => rfl)) rfl)))
      (pss_one (ps_ret (pv 1))))), ?_⟩
    intro e ne
    have s1 := same_upd (o := .dK []) ne
    refine ⟨_, rfl, d, _, rfl, s1 _ _ hd.dk, fun l1 nl1 => ?_⟩
    have s2 := same_upd (o := .lst ((LD L).map fun kv => kV kv.1)) nl1
    rw [keys_SgL] at s2 ⊢
    refine ⟨l1, SgL (L.map (·.1)), rfl, sql_of upd_same, fun l2 nl2 => ?_⟩
    have s3 := same_upd (o := .lst (SgL (L.map (·.1))).reverse) nl2
    have er : (SgL (L.map (·.1))).reverse = SgL (L.map (·.1)).reverse := by
      unfold SgL
      rw [List.map_reverse]
    rw [er] at s3 ⊢
    have sA : Same H (upd (upd (upd H e (.dK [])) l1 (.lst (SgL (L.map (·.1))))) l2 (.lst (SgL (L.map (·.1)).reverse))) := s1.trans (s2.trans s3)
    have he : (upd (upd (upd H e (.dK [])) l1 (.lst (SgL (L.map (·.1))))) l2 (.lst (SgL (L.map (·.1)).reverse))) e = some (.dK (LD [])) := s3 _ _ (s2 _ _ upd_same)
    have hl2 : (upd (upd (upd H e (.dK [])) l1 (.lst (SgL (L.map (·.1))))) l2 (.lst (SgL (L.map (·.1)).reverse))) l2 = some (.lst (SgL (L.map (·.1)).reverse)) := upd_same
    generalize (upd (upd (upd H e (.dK [])) l1 (.lst (SgL (L.map (·.1))))) l2 (.lst (SgL (L.map (·.1)).reverse))) = H3 at sA he hl2
    have hel : l2 ≠ e := ne_of hl2 he (fun z => nomatch z)
    have hde : d ≠ e := ne_of_none hd.dk ne
    generalize hds : (L.map (·.1)).reverse = ds at hl2 k
    have hin : ∀ c ∈ ds, c ∈ L.map (·.1) := fun c hc => by
      rw [← hds] at hc
      exact List.mem_reverse.mp hc
    have hdl : ds.length ≤ 900 := by
      rw [← hds, List.length_reverse, List.length_map]
      exact hd.sz
    refine ⟨l2, rfl, ⟨_, sql_of hl2⟩, for_list (K := K) (a := l2) (xs := SgL ds) (fun i σ H2 => ∃ x, σ = [some (.ref d), some (.ref e), x] ∧ H2 = upd H3 e (.dK (LD (fillG (gD L) (ds.take i))))) ⟨none, rfl, ?_⟩ (fun i σ H2 _ ⟨_, _, z⟩ => sql_of (by rw [z, upd_ne hel]; exact hl2)) ?_ ?_⟩
    · funext b
      by_cases z : b = e
      · subst z
        rw [upd_same, he]
        rfl
      · rw [upd_ne z]
    · rintro i y σ H2 hi ⟨x, rfl, rfl⟩
      obtain ⟨c, hc, rfl⟩ := SgL_get hi
      have hil : i < ds.length := (List.getElem?_eq_some_iff.mp hc).1
      have hdd : (upd H3 e (.dK (LD (fillG (gD L) (ds.take i))))) d = some (.dK (LD L)) := by rw [upd_ne hde]; exact sA _ _ hd.dk
      refine ⟨_, rfl, _, rfl, d, .int (gD L c), rfl, ?_, _, rfl, _, rfl, e, _, rfl, DPut.k (k := Sum.inr (sg c)) upd_same ?_, _, rfl, ?_⟩
      · rw [← get_of (hin c (List.mem_of_getElem? hc))]
        exact DGet.k (k := Sum.inr (sg c)) hdd
      · rw [LD_len]
        have := fillG_len (gD L) (ds.take i)
        rw [List.length_take] at this
        exact small1000 (by omega)
      · rw [upd_upd, putK_LD, List.take_add_one, hc, Option.toList_some, fillG_snoc]
    · rintro σ H2 ⟨x, rfl, rfl⟩
      rw [SgL_len, List.take_length]
      refine ⟨_, rfl, k e _ ne (fun b o eb => ?_) ⟨upd_same, fillG_nd _ _, fillG_sz _ hdl⟩⟩
      rw [upd_ne (ne_of_none eb ne)]
      exact sA _ _ eb
end
end DO

namespace DO
open PySem PySem.Spec PyProof.Rows L2
section
variable {P : Program} {w : World} {K : PySem.W.Frag} {mg : Str → Option Value} {base : Heap}
abbrev sCombined : Stmt := top 15
theorem scCombined : FnScope ["_law_one", "_law_two", "_law_factor", "_law_lengths_here", "_law_char"] ["_law_one", "_law_two", "_law_factor"] (defScope sCombined) := ⟨rfl, rfl, rfl, by decide +kernel, rfl, by decide +kernel, by decide +kernel⟩
def spCombined : Sp := fun vs H Q _ => ∃ (d1 d2 : Addr) (L N : List (Nat × Int)) (f : Int), vs = [.ref d1, .ref d2, .int f] ∧ DA H d1 L ∧ DA H d2 N ∧ L.length + N.length ≤ 900 ∧ (f = 1 ∨ f = -1) ∧
  ∀ e H', H e = none → Same H H' → DA H' e (fillG (fun c => gD L c + f * gD N c) (L.map (·.1) ++ N.map (·.1))) → Q (.ref e) H'
theorem ok_combined (D : Df K mg "_law_combined" sCombined ["_law_one", "_law_two", "_law_factor"]) (ml : mg "list" = none) : FnOk P w K mg base CX0 1 D.f D.fd ["_law_one", "_law_two", "_law_factor"] spCombined := by
  refine D.fn.ok scCombined (fun vs H Q E h => ?_) (fun cdv A outer s H vs Q E hr h => ?_)
  · obtain ⟨d1, d2, L, N, f, rfl, _⟩ := h
    rfl
  · obtain ⟨d1, d2, L, N, f, rfl, hd1, hd2, hsz, hf, k⟩ := h
    have hu := hu_of hr
    refine ⟨_, (pss_cons (ps_set (i := 3) scCombined.nd rfl (.inl rfl) pe_dnewK)
      (pss_cons (ps_for PassesOwn.never rfl (pi_list (pe_op op_cat (pe_callTy (call_list_dK rfl) (by rfl) ml (by decide +kernel) (pa_cons (pv 0) pa_nil)) (pe_callTy (call_list_dK rfl) (by rfl) ml (by decide +kernel) (pa_cons (pv 1) pa_nil)))) (pg_name (i := 4) scCombined.nd rfl (Or.inl rfl))
      (pss_one (ps_dput hu (pv 3) (pv 4) (pe_op op_addL (pe_dget2 hu (pv 0) (pv 4) pe_int ⟨rfl, rfl, rfl, rfl⟩) (pe_op op_mulL (pv 2) (pe_dget2 hu (pv 1) (pv 4) pe_int ⟨rfl, rfl, rfl, rfl⟩))) rfl)))
      (pss_one (ps_ret (pv 3))))), ?_⟩
    intro e ne
    have s1 := same_upd (o := .dK []) ne
    refine ⟨_, rfl, d1, _, rfl, s1 _ _ hd1.dk, fun l1 nl1 => ?_⟩
    have s2 := same_upd (o := .lst ((LD L).map fun kv => kV kv.1)) nl1
    rw [keys_SgL] at s2 ⊢
    refine ⟨_, rfl, d2, _, rfl, s2 _ _ (s1 _ _ hd2.dk), fun l2 nl2 => ?_⟩
    have s3 := same_upd (o := .lst ((LD N).map fun kv => kV kv.1)) nl2
    rw [keys_SgL] at s3 ⊢
    refine ⟨l1, l2, SgL (L.map (·.1)), SgL (N.map (·.1)), rfl, rfl, s3 _ _ upd_same, upd_same, ?_, fun l3 nl3 => ?_⟩
    · rw [SgL_len, SgL_len, List.length_map, List.length_map]
      exact Nat.le_of_lt (small1000 (by omega))
    have ea : SgL (L.map (·.1)) ++ SgL (N.map (·.1)) = SgL (L.map (·.1) ++ N.map (·.1)) := by
      unfold SgL
      rw [List.map_append]
    rw [ea]
    have s4 := same_upd (o := .lst (SgL (L.map (·.1) ++ N.map (·.1)))) nl3
    have sA := s1.trans (s2.trans (s3.trans s4))
    have he := s4 _ _ (s3 _ _ (s2 _ _ (upd_same (H := H) (a := e) (o := .dK (LD [])))))
    have hl3 : (upd (upd (upd (upd H e (.dK [])) l1 (.lst (SgL (L.map (·.1))))) l2 (.lst (SgL (N.map (·.1))))) l3 (.lst (SgL (L.map (·.1) ++ N.map (·.1))))) l3 = some (.lst (SgL (L.map (·.1) ++ N.map (·.1)))) := upd_same
    generalize (upd (upd (upd (upd H e (.dK [])) l1 (.lst (SgL (L.map (·.1))))) l2 (.lst (SgL (N.map (·.1))))) l3 (.lst (SgL (L.map (·.1) ++ N.map (·.1))))) = H3 at sA he hl3
    have hel : l3 ≠ e := ne_of hl3 he (fun z => nomatch z)
    have h1e : d1 ≠ e := ne_of_none hd1.dk ne
    have h2e : d2 ≠ e := ne_of_none hd2.dk ne
    have hdl : (L.map (·.1) ++ N.map (·.1)).length ≤ 900 := by
      rw [List.length_append, List.length_map, List.length_map]
      exact hsz
    generalize hds : L.map (·.1) ++ N.map (·.1) = ds at hl3 k hdl
    refine ⟨l3, rfl, ⟨_, sql_of hl3⟩, for_list (K := K) (a := l3) (xs := SgL ds) (fun i σ H2 => ∃ x, σ = [some (.ref d1), some (.ref d2), some (.int f), some (.ref e), x] ∧ H2 = upd H3 e (.dK (LD (fillG (fun c => gD L c + f * gD N c) (ds.take i))))) ⟨none, rfl, ?_⟩ (fun i σ H2 _ ⟨_, _, z⟩ => sql_of (by rw [z, upd_ne hel]; exact hl3)) ?_ ?_⟩
    · funext b
      by_cases z : b = e
      · subst z
        rw [upd_same, he]
        rfl
      · rw [upd_ne z]
    · rintro i y σ H2 hi ⟨x, rfl, rfl⟩
      obtain ⟨c, hc, rfl⟩ := SgL_get hi
      have hil : i < ds.length := (List.getElem?_eq_some_iff.mp hc).1
      have hdd1 : (upd H3 e (.dK (LD (fillG (fun c => gD L c + f * gD N c) (ds.take i))))) d1 = some (.dK (LD L)) := by rw [upd_ne h1e]; exact sA _ _ hd1.dk
      have hdd2 : (upd H3 e (.dK (LD (fillG (fun c => gD L c + f * gD N c) (ds.take i))))) d2 = some (.dK (LD N)) := by rw [upd_ne h2e]; exact sA _ _ hd2.dk
      refine ⟨_, rfl, d1, rfl, .inl ⟨_, .inl hdd1⟩, _, rfl, _, DGet.k (k := Sum.inr (sg c)) hdd1, _, rfl, _, rfl, d2, rfl, .inl ⟨_, .inl hdd2⟩, _, rfl, _, DGet.k (k := Sum.inr (sg c)) hdd2, ?_⟩
      rw [gD_of, gD_of]
      refine ⟨_, _, rfl, rfl, .inl ⟨by omega, by omega⟩, fun r er => ⟨_, _, rfl, rfl, fun r' er' => ⟨_, rfl, _, rfl, e, _, rfl, DPut.k (k := Sum.inr (sg c)) upd_same ?_, _, rfl, ?_⟩⟩⟩
      · rw [LD_len]
        have := fillG_len (fun c => gD L c + f * gD N c) (ds.take i)
        rw [List.length_take] at this
        exact small1000 (by omega)
      · rw [er', er, upd_upd, putK_LD, List.take_add_one, hc, Option.toList_some, fillG_snoc]
    · rintro σ H2 ⟨x, rfl, rfl⟩
      rw [SgL_len, List.take_length]
      refine ⟨_, rfl, k e _ ne (fun b o eb => ?_) ⟨upd_same, fillG_nd _ _, fillG_sz _ hdl⟩⟩
      rw [upd_ne (ne_of_none eb ne)]
      exact sA _ _ eb
abbrev sScaled : Stmt := top 16
theorem scScaled : FnScope ["_law_lengths_here", "_law_times", "_law_scaled_here", "_law_char"] ["_law_lengths_here", "_law_times"] (defScope sScaled) := ⟨rfl, rfl, rfl, by decide +kernel, rfl, by decide +kernel, by decide +kernel⟩
def spScaled : Sp := fun vs H Q _ => ∃ (d : Addr) (L : List (Nat × Int)) (t : Int), vs = [.ref d, .int t] ∧ DA H d L ∧ (∀ x ∈ L, x.2.natAbs < 2 ^ 1000) ∧ t.natAbs < 2 ^ 1000 ∧ ∀ e H', H e = none → Same H H' → DA H' e (fillG (fun c => gD L c * t) (L.map (·.1))) → Q (.ref e) H'
theorem ok_scaled (D : Df K mg "_law_scaled" sScaled ["_law_lengths_here", "_law_times"]) : FnOk P w K mg base CX0 1 D.f D.fd ["_law_lengths_here", "_law_times"] spScaled := by
  refine D.fn.ok scScaled (fun vs H Q E h => ?_) (fun cdv A outer s H vs Q E hr h => ?_)
  · obtain ⟨d, L, t, rfl, _⟩ := h
    rfl
  · obtain ⟨d, L, t, rfl, hd, hb, ht, k⟩ := h
    have hu := hu_of hr
    refine ⟨_, (pss_cons (ps_set (i := 2) scScaled.nd rfl (.inl rfl) pe_dnewK)
      (pss_cons (ps_lock (ps_for PassesOwn.never rfl (pi_keys (pv 0)) (pg_name (i := 3) scScaled.nd rfl (Or.inl rfl))
      (pss_one (ps_dput hu (pv 2) (pv 3) (pe_op op_mulW (pe_dget hu (pv 0) (pv 3) (fun _ _ => rfl)) (pv 1)) rfl))))
      (pss_one (ps_ret (pv 2))))), ?_⟩
    intro e ne
    have s1 := same_upd (o := .dK []) ne
    have hde : d ≠ e := ne_of_none hd.dk ne
    refine ⟨d, _, s1 _ _ hd.dk, trivial, fun od => ?_⟩
    have hfz : (upd (upd H e (.dK [])) d (.frz od (.dK (LD L)))) d = some (.frz od (.dK (LD L))) := upd_same
    have hdl : (L.map (·.1)).length ≤ 900 := by
      rw [List.length_map]
      exact hd.sz
    refine ⟨_, rfl, d, od, rfl, .inl ⟨LD L, hfz, for_it walk_keys (fun i σ H2 => ∃ x, σ = [some (.ref d), some (.int t), some (.ref e), x] ∧ H2 = upd (upd (upd H e (.dK [])) d (.frz od (.dK (LD L)))) e (.dK (LD (fillG (fun c => gD L c * t) ((L.map (·.1)).take i))))) ⟨none, rfl, ?_⟩ (fun i σ H2 _ ⟨_, _, z⟩ => by rw [z, upd_ne hde]; exact hfz) ?_ ?_⟩⟩
    · funext b
      by_cases z : b = e
      · subst z
        rw [upd_same, upd_ne hde.symm, upd_same]
        rfl
      · rw [upd_ne z]
    · rintro i y σ H2 H3 hi ⟨x, rfl, rfl⟩ ⟨rfl, kk, vv, hk, rfl⟩
      obtain ⟨c, n, hc, rfl, rfl⟩ := LD_at hk
      have hc' : (L.map (·.1))[i]? = some c := by
        rw [List.getElem?_map, hc]
        rfl
      have hfz' : (upd (upd (upd H e (.dK [])) d (.frz od (.dK (LD L)))) e (.dK (LD (fillG (fun c => gD L c * t) ((L.map (·.1)).take i))))) d = some (.frz od (.dK (LD L))) := by rw [upd_ne hde]; exact hfz
      refine ⟨_, rfl, _, rfl, d, .int (gD L c), rfl, ?_, _, rfl, _, _, rfl, rfl, wide_mul (gD_bd hb c) ht (by decide) (by decide) (by decide), _, rfl, _, rfl, e, _, rfl, DPut.k (k := Sum.inr (sg c)) upd_same ?_, _, rfl, ?_⟩
      · rw [← get_of (List.mem_of_getElem? hc')]
        exact .inl ⟨_, Sum.inr (sg c), .inr ⟨od, hfz'⟩, rfl, rfl⟩
      · rw [LD_len]
        have := fillG_len (fun c => gD L c * t) ((L.map (·.1)).take i)
        rw [List.length_take] at this
        exact small1000 (by omega)
      · rw [upd_upd, putK_LD, List.take_add_one, hc', Option.toList_some, fillG_snoc]
    · rintro σ H2 ⟨x, rfl, rfl⟩
      rw [LD_len, List.take_of_length_le (by rw [List.length_map]; exact Nat.le_refl _)]
      refine ⟨by rw [upd_ne hde]; exact hfz, _, rfl, k e _ ne (fun b o eb => ?_) ⟨?_, fillG_nd _ _, fillG_sz _ hdl⟩⟩
      · by_cases z : b = d
        · subst z
          rw [hd.dk] at eb
          rw [upd_same]
          exact eb
        · have z2 : b ≠ e := ne_of_none eb ne
          rw [upd_ne z, upd_ne z2, upd_ne z, upd_ne z2]
          exact eb
      · rw [upd_ne hde.symm, upd_same]
end
end DO

namespace DO
open PySem PySem.Spec PyProof.Rows L2
section
variable {P : Program} {w : World} {K : PySem.W.Frag} {mg : Str → Option Value} {base : Heap}
abbrev sEqR : Stmt := top 17
theorem scEqR : FnScope ["_law_one", "_law_lengths_here", "_law_other", "_law_same", "_law_turned_here"] ["_law_one", "_law_lengths_here", "_law_other"] (defScope sEqR) := ⟨rfl, rfl, rfl, by decide +kernel, rfl, by decide +kernel, by decide +kernel⟩
theorem da_made {C x dx d : Addr} {H : Hp} {M : List (Nat × Int)} (hd : DA H d M) (nx : H x = none) (nd : H dx = none) : (upd (upd H dx (.own x)) x (.ins C dx [])) d = some (.dK (LD M)) := by
  rw [upd_ne (ne_of_none hd.dk nx), upd_ne (ne_of_none hd.dk nd)]
  exact hd.dk
def spEqR (C : Addr) : Sp := fun vs H Q _ => ∃ p d e L M, vs = [.ref p, .ref d, .ref e] ∧ CatAt C H p (canon L) ∧ DA H d L ∧ DA H e M ∧ ∀ H', Same H H' → Q (.bl true) H'
theorem ok_eqR {C : Addr} (T : Cat K mg C) (D : Df K mg "_law_equal_right" sEqR ["_law_one", "_law_lengths_here", "_law_other"]) (ME : Mf K C "__eq__" "Catalog.__eq__" sEq ["self", "other"]) (MI : Mf K C "__init__" "Catalog.__init__" sIni ["self", "lengths"]) (MK : Mk K C MI.f)
    (GI : FnOk P w K mg base CX0 2 MI.f MI.fd ["self", "lengths"] (spIni C)) (mis : mg "isinstance" = none) (mbo : mg "bool" = none) : FnOk P w K mg base CX0 4 D.f D.fd ["_law_one", "_law_lengths_here", "_law_other"] (spEqR C) := by
  have GE : FnOk P w K mg base CX0 1 ME.f ME.fd ["self", "other"] (spEqC K C) := ok_eq T ME mis
  refine D.fn.ok scEqR (fun vs H Q E h => ?_) (fun cdv A outer s H vs Q E hr h => ?_)
  · obtain ⟨p, d, e, L, M, rfl, _⟩ := h
    rfl
  · obtain ⟨p, d, e, L, M, rfl, hp, hd, he, k⟩ := h
    have hr3 : Room (2 + 1) _ := hr
    have hr1 : Room 1 _ := hr.mono (by decide)
    have hu0 : (A.deeper (envOfC "_law_equal_right" (defScope sEqR) s.heap.objs.size D.f cdv)).units < cLine := hr.units0
    refine ⟨_, (pss_cons (ps_set (i := 3) scEqR.nd rfl (.inl rfl) (pe_cmpR (op_eqO ME.me GE hr1 ME.bd pass0) (pv 0) (pe_make MK GI hr3 rfl T.mgC MI.bd .nil pass0 (pa_cons (pv 2) pa_nil)) (nomark _)))
      (pss_cons (ps_set (i := 4) scEqR.nd rfl (.inl rfl) (pe_cmpR (op_eqO ME.me GE hr1 ME.bd pass0) (pe_make MK GI hr3 rfl T.mgC MI.bd .nil pass0 (pa_cons (pv 2) pa_nil)) (pv 0) (nomark _)))
      (pss_one (ps_ret (pe_and (pe_callB call_isi (by rfl) mis (by decide +kernel) (pa_cons (pv 3) (pa_cons (pe_bltn (v := .ty "bool") (by rfl) mbo (by decide +kernel) rfl) pa_nil))) (pe_and (pe_cmpR op_eq (pv 3) (pe_cmpR (op_eqLD hu0) (pv 1) (pv 2) (nomark _)) (nomark _)) (pe_and (pe_callB call_isi (by rfl) mis (by decide +kernel) (pa_cons (pv 4) (pa_cons (pe_bltn (v := .ty "bool") (by rfl) mbo (by decide +kernel) rfl) pa_nil))) (pe_one (pe_cmpR op_eq (pv 4) (pv 3) (nomark _)))))))))), ?_⟩
    refine ⟨_, rfl, _, rfl, fun x dx nx ndx hne => ⟨x, e, dx, M, rfl, upd_same, da_made he nx ndx, he.sz, fun H1 c1 kp1 => ⟨rfl, ?_⟩⟩⟩
    have s1 := made_same nx ndx kp1
    have p1 := hp.keep s1
    have d1 := hd.keep s1
    have e1 := he.keep s1
    obtain ⟨⟨dp, ep, ip, _⟩, _, _⟩ := id p1
    obtain ⟨⟨dc, ec, ic, _⟩, _, _⟩ := id c1
    refine ⟨p, dp, _, rfl, ip, .inl ⟨x, dc, _, rfl, ic⟩, p, canon L, _, rfl, p1, .inl ⟨x, canon M, rfl, c1, ?_⟩⟩
    refine ⟨_, rfl, fun y dy ny ndy hne' => ⟨y, e, dy, M, rfl, upd_same, da_made e1 ny ndy, he.sz, fun H2 c2 kp2 => ⟨rfl, _, rfl, ?_⟩⟩⟩
    have s2 := made_same ny ndy kp2
    have p2 := p1.keep s2
    have d2 := d1.keep s2
    have e2 := e1.keep s2
    obtain ⟨⟨dp2, ep2, ip2, _⟩, _, _⟩ := id p2
    obtain ⟨⟨dc2, ec2, ic2, _⟩, _, _⟩ := id c2
    refine ⟨y, dc2, _, rfl, ic2, .inl ⟨p, dp2, _, rfl, ip2⟩, y, canon M, _, rfl, c2, .inl ⟨p, canon L, rfl, p2, ?_⟩⟩
    have hq := k H2 (s1.trans s2)
    refine ⟨_, rfl, _, _, _, _, true, rfl, .ty "bool", .base (.bl _), kit_ty (by decide +kernel), true, rfl, ?_⟩
    refine iteT' rfl ?_
    refine ⟨_, rfl, _, rfl, _, rfl, d, e, L, M, rfl, rfl, d2.dk, e2.dk, rfl, ?_⟩
    rw [eqLD_iff hd.nd he.nd]
    refine ⟨_, rfl, ?_⟩
    refine iteT' (decide_eq_true rfl) ?_
    refine ⟨_, rfl, _, _, _, _, true, rfl, .ty "bool", .base (.bl _), kit_ty (by decide +kernel), true, rfl, ?_⟩
    refine iteT' rfl ?_
    refine ⟨_, rfl, _, rfl, rfl, ?_⟩
    have z : decide (V.bl (decide (canon M = canon L)) = V.bl (decide (canon L = canon M))) = true := by
      apply decide_eq_true
      by_cases w : canon L = canon M
      · rw [decide_eq_true w, decide_eq_true w.symm]
      · rw [decide_eq_false w, decide_eq_false fun q => w q.symm]
    rw [z]
    exact hq
end
end DO

namespace DO
open PySem PySem.Spec PyProof.Rows L2
section
variable {P : Program} {w : World} {K : PySem.W.Frag} {mg : Str → Option Value} {base : Heap}
abbrev sFits : Stmt := top 14
theorem scFits : FnScope ["_law_catalog", "_law_lengths_here", "_law_signs_here", "_law_texts", "_law_char", "_law_ordered", "_law_text_here", "_law_total"] ["_law_catalog", "_law_lengths_here", "_law_signs_here", "_law_texts"] (defScope sFits) := ⟨rfl, rfl, rfl, by decide +kernel, rfl, by decide +kernel, by decide +kernel⟩
/-- a list of texts of signs read as data -/
def SgD (cs : List Nat) : PyData := .list (cs.map fun c => PyData.str (sg c))
theorem dp_sg {H : Hp} : ∀ cs : List Nat, DpAll K H (SgL cs) (cs.map fun c => PyData.str (sg c))
  | [] => .nil
  | c :: r => .cons (.str (sg c)) (dp_sg r)
theorem lay_sg : ∀ {cs : List Nat}, (∀ c ∈ cs, PyData.strOk (sg c) = true) → PyData.canLayAll0 (cs.map fun c => PyData.str (sg c)) = true
  | [], _ => by simp [PyData.canLayAll0]
  | c :: r, h => by
    have h1 := h c List.mem_cons_self
    have h2 := lay_sg (cs := r) fun x hx => h x (List.mem_cons_of_mem _ hx)
    rw [List.map_cons, PyData.canLayAll0, h2]
    simp [PyData.canLay0, h1]
theorem depth_sg : ∀ cs : List Nat, PyData.depthAll (cs.map fun c => PyData.str (sg c)) = 0
  | [] => by simp [PyData.depthAll]
  | c :: r => by
    rw [List.map_cons, PyData.depthAll, depth_sg r]
    simp [PyData.depth]
theorem shaped_sg {cs : List Nat} (h : ∀ c ∈ cs, PyData.strOk (sg c) = true) : SeqAt.shaped (SgD cs) = true := by
  unfold SeqAt.shaped SgD
  rw [Bool.and_eq_true]
  refine ⟨by rw [PyData.canLay0]; exact lay_sg h, decide_eq_true ?_⟩
  rw [PyData.depth, depth_sg]
  decide
theorem eqv_sgs {cs : List Nat} (h : ∀ c ∈ cs, PyData.strOk (sg c) = true) : PyData.eqv (SgD cs) (SgD cs) = true := SeqAt.eqv_refl _ (SeqAt.canLay_of_shaped (shaped_sg h))
theorem sortN_nd {cs : List Nat} (h : cs.Nodup) : sortN cs = asc cs := by
  refine rise_ext (List.Pairwise.imp₂ (R := fun a b => a ≤ b) (S := fun a b => a ≠ b) (fun a b h1 h2 => by omega) (sortN_srt cs) ((sortN_perm cs).nodup_iff.mpr h)) (asc_srt cs) fun x => ?_
  rw [asc_mem]
  exact (sortN_perm cs).mem_iff
theorem sgs_tx (ds : List Nat) : sgs (tx ds) = SgL ds := by
  unfold sgs SgL tx sg
  simp
def TxL (ts : List (List Nat)) : List V := ts.map fun ds => V.str (tx ds)
def spFits (C : Addr) : Sp := fun vs H Q _ => ∃ (p d l tl : Addr) (L : List (Nat × Int)) (cs : List Nat) (ts : List (List Nat)), vs = [.ref p, .ref d, .ref l, .ref tl] ∧ CatAt C H p (canon L) ∧ DA H d L ∧ (∀ c ∈ L.map (·.1), PyData.strOk (sg c) = true) ∧
  H l = some (.lst (SgL cs)) ∧ H tl = some (.lst (TxL ts)) ∧ (∀ ds ∈ ts, ds.length ≤ 1000) ∧ ∀ H', Same H H' → Q (.bl true) H'
theorem ok_fits {C : Addr} (T : Cat K mg C) (D : Df K mg "_law_fits" sFits ["_law_catalog", "_law_lengths_here", "_law_signs_here", "_law_texts"])
    (MT : Mf K C "__iter__" "Catalog.__iter__" sItr ["self"]) (GIt : FnN P w K mg base CX0 1 MT.f MT.fd ["self"] (spIterT C txtOf)) (nl : PySem.W.findIn K (.ref C) "__len__" = some none) (nh : PySem.W.findIn K (.ref C) "__length_hint__" = some none)
    (MG : Mf K C "__getitem__" "Catalog.__getitem__" sGet ["self", "at"]) (MH : Mf K C "__contains__" "Catalog.__contains__" sHas ["self", "x"]) (ML : Mf K C "length" "Catalog.length" sLen ["self", "text"])
    {pA gA : Addr} {fdL : FuncData} (PO : PropOf K C "letters" pA gA) (FL : Fun K "letters" "Catalog.letters" sLet gA fdL) (bLt : Binds K fdL ["self"] [])
    (DI : Df K mg "_law_is_integer" sIsI ["_law_value"]) (mis : mg "isinstance" = none) (mint : mg "int" = none) (mbo : mg "bool" = none) (mso : mg "sorted" = none) (mst : mg "str" = none) (ml : mg "list" = none) (ms : mg "sum" = none) :
    FnOk P w K mg base CX0 4 D.f D.fd ["_law_catalog", "_law_lengths_here", "_law_signs_here", "_law_texts"] (spFits C) := by
  have GG : FnOk P w K mg base CX0 1 MG.f MG.fd ["self", "at"] (spGet C) := ok_get T MG
  have GH : FnOk P w K mg base CX0 1 MH.f MH.fd ["self", "x"] (spHas C) := ok_has T MH
  have GL : FnOk P w K mg base CX0 1 ML.f ML.fd ["self", "text"] (spLen C) := ok_len T ML ms
  have GLt : FnOk P w K mg base CX0 1 gA fdL ["self"] (getSp C "_letters") := ok_let T FL
  have GI : FnOk P w K mg base CX0 1 DI.f DI.fd ["_law_value"] spIsI := ok_isI DI mis mint mbo
  refine D.fn.ok scFits (fun vs H Q E h => ?_) (fun cdv A outer s H vs Q E hr h => ?_)
  · obtain ⟨p, d, l, tl, L, cs, ts, rfl, _⟩ := h
    rfl
  · obtain ⟨p, d, l, tl, L, cs, ts, rfl, hp, hd, hok, hl, htl, hts, k⟩ := h
    have hu := hu_of hr
    have hu2 : (A.deeper (envOfC "_law_fits" (defScope sFits) s.heap.objs.size D.f cdv)).units + 2 < cLine := Nat.lt_of_le_of_lt (Nat.add_le_add_left (by decide : 2 ≤ 64) _) hr.units
    have hr3 : Room (1 + 2) _ := hr
    have hr2 : Room (1 + 1) _ := hr.mono (by decide)
    have hr1 : Room 1 _ := hr.mono (by decide)
    refine ⟨_, (pss_cons (ps_if (pt_not (pt_val (pe_callB call_isi (by rfl) mis (by decide +kernel) (pa_cons (pv 0) (pa_cons (pe_glob (v := .ref C) (by rfl) T.mgC rfl) pa_nil)))))
      (pss_one (ps_never))
      pss_nil)
      (pss_cons (ps_set (i := 5) scFits.nd rfl (.inl rfl) (pe_callB (cr_sortedT hu2) (by rfl) mso (by decide +kernel) (pa_cons (pe_lock (pe_lc (own := [("_law_char", 4)]) (g := gName 4) (tt := tYes) rfl scFits.nd (pi_keys (pv 1)) (blkOk_by (N := ["_law_catalog", "_law_lengths_here", "_law_signs_here", "_law_texts", "_law_char", "_law_ordered", "_law_text_here", "_law_total"]) (sc := defScope sFits) (by decide +kernel)) (fun _ _ _ _ _ => pg_name (i := 4) scFits.nd rfl (Or.inl rfl)) (fun _ _ _ _ _ => pts_nil) (fun _ _ _ _ _ => (pe_callTy SkE.call_str_str (by rfl) mst (by decide +kernel) (pa_cons (pv 4) pa_nil))))) pa_nil)))
      (pss_cons (ps_if (PW.pt (pw_or (pt_cmpR op_ne (pe_prop (pv 0) T.cl PO GLt hr2 bLt .nil pass0 rfl) (pe_join pe_str (pv 5)) (nomark _)) (pw_or (pt_cmpR (op_neD hr.units) (pe_callTy (call_listO rfl MT.me nl nh GIt hr3 MT.bd pass0) (by rfl) ml (by decide +kernel) (pa_cons (pv 0) pa_nil)) (pv 5) (nomark _)) (pw_or1 (pt_cmpR (op_neD hr.units) (pe_lc (own := [("_law_char", 4)]) (g := gName 4) (tt := tYes) rfl scFits.nd (pi_ownT MT.me GIt hr1 MT.bd pass0 (pv 0)) (blkOk_by (N := ["_law_catalog", "_law_lengths_here", "_law_signs_here", "_law_texts", "_law_char", "_law_ordered", "_law_text_here", "_law_total"]) (sc := defScope sFits) (by decide +kernel)) (fun _ _ _ _ _ => pg_name (i := 4) scFits.nd rfl (Or.inl rfl)) (fun _ _ _ _ _ => pts_nil) (fun _ _ _ _ _ => (pv 4))) (pv 5) (nomark _))))))
      (pss_one (ps_never))
      pss_nil)
      (pss_cons (ps_for PassesOwn.never rfl (pi_list (pv 2)) (pg_name (i := 4) scFits.nd rfl (Or.inl rfl))
      (pss_cons (ps_if (PW.pt (pw_or (pt_not (pt_val (pe_call GI hr1 (by rfl) DI.mgf DI.fn.kp DI.bd .nil pass0 (pa_cons (pe_subO MG.me MG.fn GG hr2 MG.bd pass0 (pv 0) (pv 4)) pa_nil)))) (pw_or1 (pt_cmpR op_ne (pe_subO MG.me MG.fn GG hr2 MG.bd pass0 (pv 0) (pv 4)) (pe_dget2 hu (pv 1) (pv 4) pe_int ⟨rfl, rfl, rfl, rfl⟩) (nomark _)))))
      (pss_one (ps_never))
      pss_nil)
      (pss_one (ps_if (pt_cmpR op_ne (pe_cmpR (op_inO MH.me GH hr1 MH.bd pass0) (pv 4) (pv 0) rfl) (pe_cmp (pc_din hu (pv 4) (pv 1))) (nomark _))
      (pss_one (ps_never))
      pss_nil))))
      (pss_cons (ps_for PassesOwn.never rfl (pi_list (pv 3)) (pg_name (i := 6) scFits.nd rfl (Or.inl rfl))
      (pss_cons (ps_set (i := 7) scFits.nd rfl (.inl rfl) (pe_meth (pv 0) T.cl ML.me GL hr1 ML.bd .nil pass0 (pa_cons (pv 6) pa_nil)))
      (pss_one (ps_if (PW.pt (pw_or (pt_not (pt_val (pe_call GI hr1 (by rfl) DI.mgf DI.fn.kp DI.bd .nil pass0 (pa_cons (pv 7) pa_nil)))) (pw_or1 (pt_cmpR op_ne (pv 7) (pe_callB (cr_sum rfl) (by rfl) ms (by decide +kernel) (pa_cons (pe_lc (own := [("_law_char", 4)]) (g := gName 4) (tt := tYes) rfl scFits.nd (pi_str (pv 6)) (blkOk_by (N := ["_law_catalog", "_law_lengths_here", "_law_signs_here", "_law_texts", "_law_char", "_law_ordered", "_law_text_here", "_law_total"]) (sc := defScope sFits) (by decide +kernel)) (fun _ _ _ _ _ => pg_name (i := 4) scFits.nd rfl (Or.inl rfl)) (fun _ _ _ _ _ => pts_nil) (fun _ _ _ _ _ => (pe_dget2 hu (pv 1) (pv 4) pe_int ⟨rfl, rfl, rfl, rfl⟩))) pa_nil)) (nomark _)))))
      (pss_one (ps_never))
      pss_nil))))
      (pss_one (ps_ret pe_bl))))))), ?_⟩
    refine ⟨_, rfl, _, _, _, _, true, rfl, .own C, TyX_cat T hp, T.kC, true, rfl, ?_⟩
    refine iteF' rfl ?_
    -- the signs in order
    refine ⟨d, .dK (LD L), hd.dk, trivial, fun od => ?_⟩
    have hfz : (upd H d (.frz od (.dK (LD L)))) d = some (.frz od (.dK (LD L))) := upd_same
    refine ⟨_, rfl, d, od, rfl, .inl ⟨LD L, hfz, fun B nB => ?_⟩⟩
    have hBd : d ≠ B := ne_of_none hfz nB
    refine lc_it walk_keys (fun i H2 => H2 = upd (upd H d (.frz od (.dK (LD L)))) B (.lst (SgL ((L.map (·.1)).take i)))) rfl (fun i H2 _ e => by rw [e, upd_ne hBd]; exact hfz) ?_ ?_
    · rintro i x H2 H3 hi rfl ⟨rfl, kk, vv, hk, rfl⟩
      obtain ⟨c, n, hc, rfl, rfl⟩ := LD_at hk
      have hc' : (L.map (·.1))[i]? = some c := by
        rw [List.getElem?_map, hc]
        rfl
      refine ⟨rfl, ?_⟩
      refine ⟨_, rfl, sg c, rfl, _, upd_same, ?_, ?_⟩
      · rw [SgL_len, List.length_take, List.length_map]
        have := hd.sz
        exact small1000 (by omega)
      · rw [upd_upd, List.take_add_one, hc']
        unfold SgL
        rw [List.map_append]
        rfl
    rintro H2 rfl
    rw [LD_len, List.take_of_length_le (by rw [List.length_map]; exact Nat.le_refl _)]
    have nB' : H B = none := by
      rw [upd_ne hBd.symm] at nB
      exact nB
    refine ⟨by rw [upd_ne hBd]; exact hfz, ?_⟩
    have hB : (upd (upd (upd H d (.frz od (.dK (LD L)))) B (.lst (SgL (L.map (·.1))))) d (.dK (LD L))) B = some (.lst (SgL (L.map (·.1)))) := by rw [upd_ne hBd.symm, upd_same]
    have sm : Same H (upd (upd (upd H d (.frz od (.dK (LD L)))) B (.lst (SgL (L.map (·.1))))) d (.dK (LD L))) := fun b o e => by
      have h2 := ne_of_none e nB'
      by_cases h1 : b = d
      · subst h1
        rw [hd.dk] at e
        rw [upd_same]
        exact e
      · rw [upd_ne h1, upd_ne h2, upd_ne h1]
        exact e
    generalize (upd (upd (upd H d (.frz od (.dK (LD L)))) B (.lst (SgL (L.map (·.1))))) d (.dK (LD L))) = H4 at hB sm
    refine ⟨B, (L.map (·.1)).map sg, rfl, sql_of (by rw [← SgL_str]; exact hB), fun ol no => ?_⟩
    rw [sort_sg, sortN_nd hd.nd]
    have s5 := same_upd (o := .lst (((asc (L.map (·.1))).map sg).map V.str)) no
    have hO : (upd H4 ol (.lst (((asc (L.map (·.1))).map sg).map V.str))) ol = some (.lst (SgL (asc (L.map (·.1))))) := by rw [upd_same, SgL_str]
    have sm5 : Same H (upd H4 ol (.lst (((asc (L.map (·.1))).map sg).map V.str))) := sm.trans s5
    generalize (upd H4 ol (.lst (((asc (L.map (·.1))).map sg).map V.str))) = H5 at hO sm5
    have hp5 := hp.keep sm5
    obtain ⟨⟨dx, e, ip, ie⟩, up, sz⟩ := id hp5
    rw [canon_keys] at ip
    have hal : (asc (L.map (·.1))).length ≤ 900 := Nat.le_trans (asc_len _) (by rw [List.length_map]; exact hd.sz)
    have hoks : ∀ c ∈ asc (L.map (·.1)), PyData.strOk (sg c) = true := fun c hc => hok c ((asc_mem _ c).mp hc)
    have hsz : (tx (asc (L.map (·.1)))).cps.size = (asc (L.map (·.1))).length := tx_len _
    have same : (!PyData.eqv (SgD (asc (L.map (·.1)))) (SgD (asc (L.map (·.1))))) = false := by rw [eqv_sgs hoks]; rfl
    -- the letters
    refine ⟨_, rfl, p, dx, _, rfl, ip, p, dx, _, _, rfl, ip, flds_lt _ _, ⟨_, rfl⟩, _, rfl, _, ol, (asc (L.map (·.1))).map sg, rfl, rfl, .inl (sql_of (by rw [← SgL_str]; exact hO)), join_room (by omega), ?_⟩
    rw [join_tx]
    refine ⟨rfl, _, rfl, ?_⟩
    refine iteF' (by simp) ?_
    -- list of it
    refine ⟨_, rfl, p, dx, _, _, rfl, ip, txt_flds _ _, by rw [hsz]; exact Nat.le_of_lt (small1000 (by omega)), fun q nq => ⟨_, rfl, SgD (asc (L.map (·.1))), SgD (asc (L.map (·.1))), .lst (sql_of (by rw [upd_same, sgs_tx])) (dp_sg _), .lst (sql_of ((same_upd nq) _ _ hO)) (dp_sg _), shaped_sg hoks, shaped_sg hoks, _, rfl, ?_⟩⟩
    refine iteF' same ?_
    have s6 := same_upd (o := .lst (sgs (tx (asc (L.map (·.1)))))) nq
    generalize (upd H5 q (.lst (sgs (tx (asc (L.map (·.1))))))) = H6 at s6
    -- the walk over it
    refine ⟨_, rfl, p, dx, _, _, rfl, s6 _ _ ip, txt_flds _ _, fun B2 nB2 => lc_it walk_str (fun i H2 => H2 = upd H6 B2 (.lst (SgL ((asc (L.map (·.1))).take i)))) rfl (fun _ _ _ _ => trivial) ?_ ?_⟩
    · rintro i x H2 H3 hi rfl ⟨rfl, c, hc, rfl⟩
      have hc' := tx_at hc
      refine ⟨rfl, ?_⟩
      refine ⟨_, rfl, _, upd_same, ?_, ?_⟩
      · rw [SgL_len, List.length_take]
        exact small1000 (by omega)
      · rw [upd_upd, List.take_add_one, hc']
        unfold SgL
        rw [List.map_append]
        rfl
    rintro H2 rfl
    rw [hsz, List.take_length]
    have s7 := same_upd (o := .lst (SgL (asc (L.map (·.1))))) nB2
    refine ⟨_, rfl, SgD (asc (L.map (·.1))), SgD (asc (L.map (·.1))), .lst (sql_of upd_same) (dp_sg _), .lst (sql_of (s7 _ _ (s6 _ _ hO))) (dp_sg _), shaped_sg hoks, shaped_sg hoks, _, rfl, ?_⟩
    refine iteF' same ?_
    have sm7 := sm5.trans (s6.trans s7)
    generalize (upd H6 B2 (.lst (SgL (asc (L.map (·.1)))))) = H7 at sm7 s7
    have hp7 := hp.keep sm7
    have hd7 := hd.keep sm7
    obtain ⟨⟨dx7, e7, ip7, ie7⟩, _, _⟩ := id hp7
    have eqg : ∀ c, gD (canon L) c = gD L c := fun c => by
      unfold gD
      rw [canon_get]
    -- sign by sign
    refine ⟨_, rfl, l, rfl, ⟨_, sql_of (sm7 _ _ hl)⟩, for_list (K := K) (a := l) (xs := SgL cs) (fun i σ H2 => ∃ x, σ = [some (.ref p), some (.ref d), some (.ref l), some (.ref tl), x, some (.ref ol), none, none] ∧ H2 = H7) ⟨none, rfl, rfl⟩ (fun i σ H2 _ ⟨_, _, z⟩ => sql_of (by rw [z]; exact sm7 _ _ hl)) ?_ ?_⟩
    · rintro i y σ H2 hi ⟨x, rfl, rfl⟩
      obtain ⟨c, hc, rfl⟩ := SgL_get hi
      refine ⟨_, rfl, _, rfl, p, dx7, _, rfl, ip7, p, _, c, rfl, hp7, _, rfl, true, rfl, ?_⟩
      refine iteF' rfl ?_
      refine ⟨_, rfl, _, rfl, p, dx7, _, rfl, ip7, p, _, c, rfl, hp7, _, rfl, d, rfl, .inl ⟨_, .inl hd7.dk⟩, _, rfl, _, DGet.k (k := Sum.inr (sg c)) hd7.dk, ?_⟩
      rw [gD_of, eqg]
      refine ⟨rfl, _, rfl, ?_⟩
      refine iteF' (by simp) ?_
      refine ⟨_, rfl, _, rfl, p, dx7, _, rfl, ip7, p, _, c, rfl, hp7, _, rfl, _, rfl, _, rfl, d, _, rfl, DGet.k (k := Sum.inr (sg c)) hd7.dk, ?_⟩
      rw [valV_LD, canon_get]
      refine ⟨rfl, _, rfl, ?_⟩
      refine iteF' (by cases getL L c <;> simp) ?_
      exact ⟨_, rfl, rfl⟩
    rintro σ H2 ⟨x, rfl, rfl⟩
    -- text by text
    refine ⟨_, rfl, tl, rfl, ⟨_, sql_of (sm7 _ _ htl)⟩, for_list (K := K) (a := tl) (xs := TxL ts) (fun i σ H3 => ∃ x4 x6 x7, σ = [some (.ref p), some (.ref d), some (.ref l), some (.ref tl), x4, some (.ref ol), x6, x7] ∧ Same H H3) ⟨_, none, none, rfl, sm7⟩ (fun i σ H3 _ ⟨_, _, _, _, z⟩ => sql_of (z _ _ htl)) ?_ ?_⟩
    · rintro i y σ H3 hi ⟨x4, x6, x7, rfl, s3⟩
      obtain ⟨ds, hds, rfl⟩ : ∃ ds ∈ ts, y = .str (tx ds) := by
        have hm := List.mem_of_getElem? hi
        obtain ⟨z, hz, ez⟩ := List.mem_map.mp hm
        exact ⟨z, hz, ez.symm⟩
      have hp3 := hp.keep s3
      obtain ⟨⟨dx3, e3, ip3, _⟩, _, _⟩ := id hp3
      refine ⟨_, rfl, p, dx3, _, rfl, ip3, flds_no _ _ (by decide +kernel) (by decide +kernel), _, rfl, p, _, ds, rfl, hp3, hts ds hds, fun H4 s4 => ?_⟩
      refine ⟨_, rfl, _, rfl, true, rfl, ?_⟩
      refine iteF' rfl ?_
      have s34 := s3.trans s4
      have hd4 := hd.keep s34
      refine ⟨_, rfl, _, rfl, tx ds, rfl, fun B3 nB3 => lc_it walk_str (fun i H2 => H2 = upd H4 B3 (.lst (((ds.take i).map (gD L)).map V.int))) rfl (fun _ _ _ _ => trivial) ?_ ?_⟩
      · rintro i x H8 H9 hi8 rfl ⟨rfl, c, hc, rfl⟩
        have hc' := tx_at hc
        have hdl := hts ds hds
        have hdB : (upd H4 B3 (.lst (((ds.take i).map (gD L)).map V.int))) d = some (.dK (LD L)) := (same_upd nB3) _ _ hd4.dk
        refine ⟨rfl, ?_⟩
        refine ⟨_, rfl, d, rfl, .inl ⟨_, .inl hdB⟩, _, rfl, _, DGet.k (k := Sum.inr (sg c)) hdB, _, upd_same, ?_, ?_⟩
        · rw [List.length_map, List.length_map, List.length_take]
          exact small1000 (by omega)
        · rw [gD_of, upd_upd, List.take_add_one, hc', Option.toList_some, List.map_append, List.map_append]
          rfl
      · rintro H8 rfl
        have hsz2 : (tx ds).cps.size = ds.length := tx_len ds
        rw [hsz2, List.take_length]
        refine ⟨B3, ds.map (gD L), rfl, sql_of upd_same, ?_⟩
        have es : sumG (canon L) ds = (ds.map (gD L)).sum := by
          unfold sumG
          congr 1
          exact List.map_congr_left fun c _ => eqg c
        refine ⟨rfl, _, rfl, ?_⟩
        refine iteF' (by rw [es]; simp) ?_
        exact ⟨_, _, _, rfl, s34.trans (same_upd nB3)⟩
    · rintro σ H3 ⟨x4, x6, x7, rfl, s3⟩
      exact k H3 s3
end
end DO

namespace DO
open PySem PySem.Spec PyProof.Rows L2
section
variable {P : Program} {w : World} {K : PySem.W.Frag} {mg : Str → Option Value} {base : Heap}
abbrev sEqs : Stmt := top 18
theorem scEqs : FnScope ["_law_source_here", "_law_catalog", "_law_lengths_here", "_law_signs_here", "_law_char", "_law_more", "_law_zero", "_law_less", "_law_other", "_law_changed"] ["_law_source_here", "_law_catalog", "_law_lengths_here", "_law_signs_here"] (defScope sEqs) := ⟨rfl, rfl, rfl, by decide +kernel, rfl, by decide +kernel, by decide +kernel⟩
def spEqs (C : Addr) : Sp := fun vs H Q _ => ∃ (a c p d l : Addr) (L : List (Nat × Int)) (cs : List Nat), vs = [.ref a, .ref p, .ref d, .ref l] ∧ Src H a c ∧ CatAt C H p (canon L) ∧ DA H d L ∧ L.length ≤ 899 ∧
  l ≠ a ∧ H l = some (.lst (SgL cs)) ∧ 0 < cs.length ∧ cs.length ≤ 100 ∧ ∀ H', Kp a H H' → Src H' a c → Q (.bl true) H'
theorem ok_eqs {C : Addr} (T : Cat K mg C) (D : Df K mg "_law_equals_right" sEqs ["_law_source_here", "_law_catalog", "_law_lengths_here", "_law_signs_here"])
    (DE : Df K mg "_law_equal_right" sEqR ["_law_one", "_law_lengths_here", "_law_other"]) (GE : FnOk P w K mg base CX0 4 DE.f DE.fd ["_law_one", "_law_lengths_here", "_law_other"] (spEqR C))
    (DU : Df K mg "_law_turned" sTurned ["_law_lengths_here"]) (D7 : Df K mg "_law_take" sTake ["_law_source_here", "_law_many"]) (GT : FnOk P w K mg base CX0 2 D7.f D7.fd ["_law_source_here", "_law_many"] spTake)
    (ml : mg "list" = none) (mln : mg "len" = none) (mdi : mg "dict" = none) : FnOk P w K mg base CX0 5 D.f D.fd ["_law_source_here", "_law_catalog", "_law_lengths_here", "_law_signs_here"] (spEqs C) := by
  have GU : FnOk P w K mg base CX0 1 DU.f DU.fd ["_law_lengths_here"] spTurned := ok_turned DU ml
  refine D.fn.ok scEqs (fun vs H Q E h => ?_) (fun cdv A outer s H vs Q E hr h => ?_)
  · obtain ⟨a, c, p, d, l, L, cs, rfl, _⟩ := h
    rfl
  · obtain ⟨a, c, p, d, l, L, cs, rfl, hsrc, hp, hd, hsz, hla, hL, c0, c1, k⟩ := h
    have hu := hu_of hr
    refine ⟨_, (pss_cons (ps_if (pt_not (pt_val (pe_call GE hr (by rfl) DE.mgf DE.fn.kp DE.bd .nil pass0 (pa_cons (pv 1) (pa_cons (pv 2) (pa_cons (pe_call GU (hr.mono (by decide)) (by rfl) DU.mgf DU.fn.kp DU.bd .nil pass0 (pa_cons (pv 2) pa_nil)) pa_nil))))))
      (pss_one (ps_ret pe_bl))
      pss_nil)
      (pss_cons (ps_set (i := 4) scEqs.nd rfl (.inl rfl) (pe_ix ix_list (pv 3) (pe_call GT (hr.mono (by decide)) (by rfl) D7.mgf D7.fn.kp D7.bd .nil pass0 (pa_cons (pv 0) (pa_cons (pe_callB (show CallR _ _ (fun xs H Q => ∃ p ys, xs = [V.ref p] ∧ (SqL K H p ys ∨ SqT K H p ys) ∧ Q (.int ys.length) H) from call_len_seq) (by rfl) mln PySem.boot_len (pa_cons (pv 3) pa_nil)) pa_nil))) (fun _ _ => rfl)))
      (pss_cons (ps_set (i := 5) scEqs.nd rfl (.inl rfl) (pe_callTy call_dictD (by rfl) mdi (by decide +kernel) (pa_cons (pv 2) pa_nil)))
      (pss_cons (ps_dput hu (pv 5) (pv 4) (pe_op op_subL (pe_op op_addL (pe_dget2 hu (pv 2) (pv 4) pe_int ⟨rfl, rfl, rfl, rfl⟩) pe_int) (pe_op op_mulL pe_int (pe_call GT (hr.mono (by decide)) (by rfl) D7.mgf D7.fn.kp D7.bd .nil pass0 (pa_cons (pv 0) (pa_cons pe_int pa_nil))))) rfl)
      (pss_cons (ps_set (i := 6) scEqs.nd rfl (.inl rfl) (pe_callTy call_dictD (by rfl) mdi (by decide +kernel) (pa_cons (pv 2) pa_nil)))
      (pss_cons (ps_dput hu (pv 6) (pv 4) (pe_dget2 hu (pv 2) (pv 4) pe_int ⟨rfl, rfl, rfl, rfl⟩) rfl)
      (pss_cons (ps_set (i := 7) scEqs.nd rfl (.inl rfl) pe_dnewK)
      (pss_cons (ps_lock (ps_for PassesOwn.never rfl (pi_keys (pv 2)) (pg_name (i := 8) scEqs.nd rfl (Or.inl rfl))
      (pss_one (ps_if (pt_cmpR op_ne (pv 8) (pv 4) (nomark _))
      (pss_one (ps_dput hu (pv 7) (pv 8) (pe_dget hu (pv 2) (pv 8) (fun _ _ => rfl)) rfl))
      pss_nil))))
      (pss_cons (ps_for PassesOwn.never rfl (pi_list (pe_lst (pa_cons (pv 5) (pa_cons (pv 6) (pa_cons (pv 7) pa_nil))))) (pg_name (i := 9) scEqs.nd rfl (Or.inl rfl))
      (pss_one (ps_if (pt_not (pt_val (pe_call GE hr (by rfl) DE.mgf DE.fn.kp DE.bd .nil pass0 (pa_cons (pv 1) (pa_cons (pv 2) (pa_cons (pv 9) pa_nil))))))
      (pss_one (ps_ret pe_bl))
      pss_nil)))
      (pss_one (ps_ret pe_bl))))))))))), ?_⟩
    refine ⟨_, rfl, _, rfl, _, rfl, d, L, rfl, hd, fun e H1 ne s1 he => ⟨p, d, e, L, _, rfl, hp.keep s1, hd.keep s1, he, fun H2 s2 => ⟨true, rfl, ?_⟩⟩⟩
    refine iteF' rfl ?_
    have s12 := s1.trans s2
    obtain ⟨z0, z1, ns, hs, _⟩ := id hsrc
    refine ⟨_, rfl, _, rfl, _, rfl, l, _, rfl, .inl (sql_of (s12 _ _ hL)), a, c, (cs.length : Int), by rw [SgL_len]; rfl, hsrc.of_same s12, by omega, Nat.lt_of_le_of_lt (show (cs.length : Int).natAbs ≤ 100 by omega) (by decide), fun t H3 t0 t1 kp3 sr3 => ?_⟩
    obtain ⟨cc, hcc, hat⟩ := SgL_at t0 t1
    have k13 : Kp a H H3 := (Kp.same s12).trans kp3
    have hL3 : H3 l = some (.lst (SgL cs)) := k13 _ _ hL hla
    have hd3 := hd.kp k13 hs
    have hp3 := hp.kp k13 hs
    refine ⟨l, _, t, _, rfl, rfl, sql_of hL3, hat, ?_⟩
    -- more
    refine ⟨_, rfl, d, _, rfl, .inl hd3.dk, fun m nm => ?_⟩
    have sm := same_upd (o := .dK (LD L)) nm
    have mdk : (upd H3 m (.dK (LD L))) m = some (.dK (LD L)) := upd_same
    obtain ⟨_, _, _, hs3, _, hc3, _⟩ := id sr3
    have nma : m ≠ a := (ne_of_none hs3 nm).symm
    have nmc : c ≠ m := ne_of_none hc3 nm
    have sr4 := sr3.of_same sm
    refine ⟨_, rfl, d, rfl, .inl ⟨_, .inl (sm _ _ hd3.dk)⟩, _, rfl, _, DGet.k (k := Sum.inr (sg cc)) (sm _ _ hd3.dk), ?_⟩
    rw [gD_of]
    refine ⟨_, _, rfl, rfl, fun r1 _ => ⟨_, rfl, a, c, 2, rfl, sr4, by decide, by decide, fun t2 H5 _ _ kp5 sr5 => ⟨2, t2, rfl, rfl, .inl ⟨by decide, by decide⟩, fun r2 _ => ⟨_, _, rfl, rfl, fun r3 _ => ?_⟩⟩⟩⟩
    have mdk5 := kp5 _ _ mdk nma
    refine ⟨_, rfl, _, rfl, m, _, rfl, DPut.k (k := Sum.inr (sg cc)) mdk5 (by rw [LD_len]; exact small1000 (by omega)), ?_⟩
    have k6 : Kp a H (upd H5 m (.dK (putK (LD L) (Sum.inr (sg cc)) (.int r3)))) := fun b o eb nb => by
      have e3 := k13 _ _ eb nb
      rw [upd_ne (ne_of_none e3 nm)]
      exact kp5 _ _ (sm _ _ e3) nb
    have m6 : DA (upd H5 m (.dK (putK (LD L) (Sum.inr (sg cc)) (.int r3)))) m (putL L cc r3) := ⟨by rw [upd_same, putK_LD], putL_nd hd.nd, Nat.le_trans putL_len (by omega)⟩
    have sr6 : Src (upd H5 m (.dK (putK (LD L) (Sum.inr (sg cc)) (.int r3)))) a c := sr5.of_upd nma.symm nmc
    generalize (upd H5 m (.dK (putK (LD L) (Sum.inr (sg cc)) (.int r3)))) = H6 at k6 m6 sr6
    have hd6 := hd.kp k6 hs
    -- zero
    refine ⟨_, rfl, d, _, rfl, .inl hd6.dk, fun z nz => ?_⟩
    have s7 := same_upd (o := .dK (LD L)) nz
    refine ⟨_, rfl, d, rfl, .inl ⟨_, .inl (s7 _ _ hd6.dk)⟩, _, rfl, _, DGet.k (k := Sum.inr (sg cc)) (s7 _ _ hd6.dk), ?_⟩
    rw [gD_of]
    refine ⟨_, rfl, _, rfl, z, _, rfl, DPut.k (k := Sum.inr (sg cc)) upd_same (by rw [LD_len]; exact small1000 (by omega)), ?_⟩
    rw [upd_upd]
    have s8 : Same H6 (upd H6 z (.dK (putK (LD L) (Sum.inr (sg cc)) (.int (gD L cc))))) := same_upd nz
    have z8 : DA (upd H6 z (.dK (putK (LD L) (Sum.inr (sg cc)) (.int (gD L cc))))) z (putL L cc (gD L cc)) := ⟨by rw [upd_same, putK_LD], putL_nd hd.nd, Nat.le_trans putL_len (by omega)⟩
    generalize (upd H6 z (.dK (putK (LD L) (Sum.inr (sg cc)) (.int (gD L cc))))) = H8 at s8 z8
    have k8 : Kp a H H8 := k6.trans (Kp.same s8)
    have m8 := m6.keep s8
    have sr8 := sr6.of_same s8
    have hd8 := hd.kp k8 hs
    -- less
    intro q nq
    have s9 := same_upd (o := .dK []) nq
    have nqd : d ≠ q := ne_of_none hd8.dk nq
    refine ⟨d, _, s9 _ _ hd8.dk, trivial, fun od => ?_⟩
    have hfz : (upd (upd H8 q (.dK [])) d (.frz od (.dK (LD L)))) d = some (.frz od (.dK (LD L))) := upd_same
    have fl : ∀ i, (fillG (gD L) (((L.map (·.1)).take i).filter (fun x => decide (x ≠ cc)))).length ≤ 900 := fun i => by
      refine Nat.le_trans (fillG_len _ _) (Nat.le_trans (List.length_filter_le _ _) ?_)
      rw [List.length_take, List.length_map]
      omega
    refine ⟨_, rfl, d, od, rfl, .inl ⟨LD L, hfz, for_it walk_keys (fun i σ H2 => ∃ x, σ = [some (.ref a), some (.ref p), some (.ref d), some (.ref l), some (.str (sg cc)), some (.ref m), some (.ref z), some (.ref q), x, none] ∧ H2 = upd (upd (upd H8 q (.dK [])) d (.frz od (.dK (LD L)))) q (.dK (LD (fillG (gD L) (((L.map (·.1)).take i).filter (fun x => decide (x ≠ cc))))))) ⟨none, rfl, ?_⟩ (fun i σ H2 _ ⟨_, _, z⟩ => by rw [z, upd_ne nqd]; exact hfz) ?_ ?_⟩⟩
    · funext b
      by_cases z : b = q
      · subst z
        rw [upd_same, upd_ne nqd.symm, upd_same]
        rfl
      · rw [upd_ne z]
    · rintro i y σ H2 H3 hi ⟨x, rfl, rfl⟩ ⟨rfl, kk, vv, hk, rfl⟩
      obtain ⟨c', n, hc', rfl, rfl⟩ := LD_at hk
      have hc2 : (L.map (·.1))[i]? = some c' := by
        rw [List.getElem?_map, hc']
        rfl
      have hfz' : (upd (upd (upd H8 q (.dK [])) d (.frz od (.dK (LD L)))) q (.dK (LD (fillG (gD L) (((L.map (·.1)).take i).filter (fun x => decide (x ≠ cc))))))) d = some (.frz od (.dK (LD L))) := by rw [upd_ne nqd]; exact hfz
      have hfl := fl i
      have take1 : ((L.map (·.1)).take (i + 1)).filter (fun x => decide (x ≠ cc)) = ((L.map (·.1)).take i).filter (fun x => decide (x ≠ cc)) ++ (if c' = cc then [] else [c']) := by
        rw [List.take_add_one, hc2, Option.toList_some, List.filter_append]
        by_cases e : c' = cc
        · simp [e]
        · simp [e]
      refine ⟨_, rfl, _, rfl, rfl, _, rfl, ite2 (fun e => ?_) (fun e => ?_)⟩
      · have e2 : ¬ c' = cc := fun z => by
          subst z
          simp at e
          exact e rfl
        rw [if_neg e2] at take1
        refine ⟨_, rfl, _, rfl, d, .int (gD L c'), rfl, ?_, _, rfl, _, rfl, q, _, rfl, DPut.k (k := Sum.inr (sg c')) upd_same (by rw [LD_len]; exact small1000 (by omega)), _, rfl, ?_⟩
        · rw [← get_of (List.mem_of_getElem? hc2)]
          exact .inl ⟨_, Sum.inr (sg c'), .inr ⟨od, hfz'⟩, rfl, rfl⟩
        · rw [upd_upd, putK_LD, take1, fillG_snoc]
      · have e2 : c' = cc := by
          by_cases z : c' = cc
          · exact z
          · exfalso
            have h3 : ¬ (kV (Sum.inr (sg c')) = V.str (sg cc)) := fun w => z (sg_inj (V.str.inj w))
            simp [h3] at e
        rw [if_pos e2, List.append_nil] at take1
        exact ⟨_, rfl, by rw [take1]⟩
    rintro σ H2 ⟨x, rfl, rfl⟩
    refine ⟨by rw [upd_ne nqd]; exact hfz, ?_⟩
    have fle := fl (LD L).length
    generalize hT : fillG (gD L) (((L.map (·.1)).take (LD L).length).filter (fun x => decide (x ≠ cc))) = T at fle
    have T' : (T.map (·.1)).Nodup := by
      rw [← hT]
      exact fillG_nd _ _
    have k10 : Same H8 (upd (upd (upd (upd H8 q (.dK [])) d (.frz od (.dK (LD L)))) q (.dK (LD T))) d (.dK (LD L))) := fun b o eb => by
      by_cases z : b = d
      · subst z
        rw [hd8.dk] at eb
        rw [upd_same]
        exact eb
      · have z2 : b ≠ q := ne_of_none eb nq
        rw [upd_ne z, upd_ne z2, upd_ne z, upd_ne z2]
        exact eb
    have w10 : DA (upd (upd (upd (upd H8 q (.dK [])) d (.frz od (.dK (LD L)))) q (.dK (LD T))) d (.dK (LD L))) q T := ⟨by rw [upd_ne nqd.symm, upd_same], T', fle⟩
    generalize (upd (upd (upd (upd H8 q (.dK [])) d (.frz od (.dK (LD L)))) q (.dK (LD T))) d (.dK (LD L))) = H10 at k10 w10
    have m10 := m8.keep k10
    have z10 := z8.keep k10
    have d10 := hd8.keep k10
    have p10 := (hp.kp k8 hs).keep k10
    -- the three
    refine ⟨_, rfl, _, rfl, _, rfl, (by show 3 ≤ sizeLine; decide), fun qq nqq => ?_⟩
    have s11 := same_upd (o := .lst [V.ref m, V.ref z, V.ref q]) nqq
    have l11 : (upd H10 qq (.lst [V.ref m, V.ref z, V.ref q])) qq = some (.lst [V.ref m, V.ref z, V.ref q]) := upd_same
    generalize (upd H10 qq (.lst [V.ref m, V.ref z, V.ref q])) = H11 at s11 l11
    have k11 : Kp a H H11 := k8.trans (Kp.same (k10.trans s11))
    have sr11 := (sr8.of_same k10).of_same s11
    refine ⟨qq, rfl, ⟨_, sql_of l11⟩, for_list (K := K) (a := qq) (xs := [V.ref m, V.ref z, V.ref q]) (fun i σ H2 => ∃ x8 x9, σ = [some (.ref a), some (.ref p), some (.ref d), some (.ref l), some (.str (sg cc)), some (.ref m), some (.ref z), some (.ref q), x8, x9] ∧ Same H11 H2) ⟨_, none, rfl, fun _ _ e => e⟩ (fun i σ H2 _ ⟨_, _, _, z⟩ => sql_of (z _ _ l11)) ?_ ?_⟩
    · rintro i y σ H2 hi ⟨x8, x9, rfl, s2⟩
      obtain ⟨e, M, rfl, he⟩ : ∃ e M, y = .ref e ∧ DA H10 e M := by
        have hm := List.mem_of_getElem? hi
        rcases List.mem_cons.mp hm with h1 | hm
        · exact ⟨m, _, h1, m10⟩
        rcases List.mem_cons.mp hm with h1 | hm
        · exact ⟨z, _, h1, z10⟩
        · exact ⟨q, _, List.mem_singleton.mp hm, w10⟩
      refine ⟨_, rfl, _, rfl, _, rfl, p, d, e, L, M, rfl, (p10.keep s11).keep s2, (d10.keep s11).keep s2, (he.keep s11).keep s2, fun H3 s3 => ⟨true, rfl, ?_⟩⟩
      refine iteF' rfl ?_
      exact ⟨_, _, rfl, s2.trans s3⟩
    · rintro σ H2 ⟨x8, x9, rfl, s2⟩
      exact k H2 (k11.trans (Kp.same s2)) (sr11.of_same s2)
end
end DO

namespace DO
open PySem PySem.Spec PyProof.Rows L2
section
variable {X : Cx} {CX : CXT} {k : Nat} {C f : Addr} {fd : FuncData} {ps : List Str} {sp : Sp} {E : XK} {pins : List (Addr × Obj)} {σ : L2.St} {H : Hp} {s : Shared}
/-- n * o -/
def rMulB (C : Addr) (sp : Sp) (E : XK) : R2 := fun x y H Q => ∃ a dx fs, ∃ n : Int, x = .int n ∧ y = .ref a ∧ H a = some (.ins C dx fs) ∧ sp [y, x] H Q E
theorem op_mulB {g : Addr} {fo ro : Option Value} (MM : Meth X.K C "__mul__" g) (M : Meth X.K C "__rmul__" f) (hc : PySem.W.selfFirst X.K C = true) (h1 : PySem.W.findIn X.K (.type "int") "__mul__" = some fo) (h2 : PySem.W.findIn X.K (.type "int") "__rmul__" = some ro)
    (hb' : ((fo.isSome && !isSeqSlot fo) || (ro.isSome && !isSeqSlot ro)) = true) (hsub : PySem.W.subIn X.K (.ref C) (.type "int") = some false)
    (F : FnOk X.prog X.w X.K X.mg X.base CX k f fd ps sp) (hr : Room k X.A) (hb : Binds X.K fd ps []) (hx : Passes CX X E) : OpR X (binaryOp .Mult) (rMulB C sp E) := by
  intro pins s σ H x y v u Q I rx ry h
  obtain ⟨a, dx, fs, n, rfl, rfl, ha, q⟩ := h
  obtain rfl : u = Value.ref a := ry
  obtain ⟨t, rfl⟩ := rx
  obtain ⟨ox, od, J⟩ := inst_of I ha
  obtain ⟨m, hF⟩ := I.fr
  obtain ⟨_, _, _, hob, _⟩ := I.hok _ _ ha
  have d1 : PySem.dunder "mul" = ("__mul__" : Str) := by decide +kernel
  have d2 : dunderR "mul" = ("__rmul__" : Str) := by decide +kernel
  refine mul_back hF I.ok.mod.kin J hc hob (by rw [d1]; exact MM.at_) (by rw [d2]; exact M.at_) M.fn (by rw [d1]; exact h1) (by rw [d2]; exact h2) hb' hsub (wpAny_mono (run_fn (us := [.ref a, .int n t]) (vs := [.ref a, .int n]) F hr hb .nil hx I (.cons rfl (.cons ⟨t, rfl⟩ .nil)) q) (fun r s' z => ?_) fun _ _ x => x)
  obtain ⟨v', H', I', rz, q'⟩ := z
  exact SlX.cmpback rz ⟨v', H', I', rz, q'⟩
end
/-! ### what the law reckons, and what a catalog is then -/
theorem mk_ext {a b : List Nat} {g h : Nat → Int} (e : ∀ c, c ∈ a ↔ c ∈ b) (f : ∀ c, g c = h c) : mk a g = mk b h := by
  obtain rfl : g = h := funext f
  unfold mk
  rw [asc_ext e]
theorem gD_canon (L : List (Nat × Int)) (c : Nat) : gD (canon L) c = gD L c := by
  unfold gD
  rw [canon_get]
theorem in_canon (L : List (Nat × Int)) (c : Nat) : c ∈ (canon L).map (·.1) ↔ c ∈ L.map (·.1) := by
  rw [canon_keys, asc_mem]
def comb (f : Int) (L N : List (Nat × Int)) : List (Nat × Int) := fillG (fun c => gD L c + f * gD N c) (L.map (·.1) ++ N.map (·.1))
def scal (t : Int) (L : List (Nat × Int)) : List (Nat × Int) := fillG (fun c => gD L c * t) (L.map (·.1))
theorem mk_add (L N : List (Nat × Int)) : mk ((canon L).map (·.1) ++ (canon N).map (·.1)) (fun c => gD (canon L) c + gD (canon N) c) = canon (comb 1 L N) := by
  unfold comb
  rw [fillG_canon]
  refine mk_ext (fun c => ?_) fun c => ?_
  · rw [List.mem_append, List.mem_append, in_canon, in_canon]
  · rw [gD_canon, gD_canon, Int.one_mul]
theorem mk_sub (L N : List (Nat × Int)) : mk ((canon L).map (·.1) ++ (canon N).map (·.1)) (fun c => gD (canon L) c - gD (canon N) c) = canon (comb (-1) L N) := by
  unfold comb
  rw [fillG_canon]
  refine mk_ext (fun c => ?_) fun c => ?_
  · rw [List.mem_append, List.mem_append, in_canon, in_canon]
  · rw [gD_canon, gD_canon]
    omega
theorem mk_scal (t : Int) (L : List (Nat × Int)) : mk ((canon L).map (·.1)) (fun c => gD (canon L) c * t) = canon (scal t L) := by
  unfold scal
  rw [fillG_canon]
  refine mk_ext (fun c => in_canon L c) fun c => ?_
  rw [gD_canon]
theorem fillG_key {g : Nat → Int} {ds : List Nat} {c : Nat} : c ∈ (fillG g ds).map (·.1) ↔ c ∈ ds := by
  rw [key_some, fillG_get]
  by_cases h : c ∈ ds
  · simp [h]
  · simp [h]
theorem comb_key {f : Int} {L N : List (Nat × Int)} {c : Nat} : c ∈ (comb f L N).map (·.1) ↔ c ∈ L.map (·.1) ∨ c ∈ N.map (·.1) := by
  unfold comb
  rw [fillG_key, List.mem_append]
theorem scal_key {t : Int} {L : List (Nat × Int)} {c : Nat} : c ∈ (scal t L).map (·.1) ↔ c ∈ L.map (·.1) := fillG_key
theorem comb_len (f : Int) (L N : List (Nat × Int)) : (comb f L N).length ≤ L.length + N.length := by
  have := fillG_len (fun c => gD L c + f * gD N c) (L.map (·.1) ++ N.map (·.1))
  rw [List.length_append, List.length_map, List.length_map] at this
  exact this
theorem scal_len (t : Int) (L : List (Nat × Int)) : (scal t L).length ≤ L.length := by
  have := fillG_len (fun c => gD L c * t) (L.map (·.1))
  rw [List.length_map] at this
  exact this
theorem of_fill {g : Nat → Int} {ds : List Nat} {x : Nat × Int} (h : x ∈ fillG g ds) : x.2 = g x.1 := by
  have e := mem_getL (fillG_nd g ds) (show (x.1, x.2) ∈ fillG g ds from h)
  rw [fillG_get] at e
  split at e
  · exact (Option.some.inj e).symm
  · cases e
theorem comb_bd {f : Int} {L N : List (Nat × Int)} (hf : f = 1 ∨ f = -1) (hL : ∀ x ∈ L, x.2.natAbs < 2 ^ 200) (hN : ∀ x ∈ N, x.2.natAbs < 2 ^ 200) : ∀ x ∈ comb f L N, x.2.natAbs < 2 ^ 1000 := fun x hx => by
  have e : x.2 = gD L x.1 + f * gD N x.1 := of_fill hx
  have h1 := gD_bd hL x.1
  have h2 := gD_bd hN x.1
  have h3 : (2 : Nat) ^ 200 + 2 ^ 200 ≤ 2 ^ 1000 := by decide +kernel
  generalize (2 : Nat) ^ 200 = p at h1 h2 h3
  generalize (2 : Nat) ^ 1000 = q at h3 ⊢
  rw [e]
  rcases hf with rfl | rfl
  · omega
  · omega
theorem bd1000 {L : List (Nat × Int)} (hL : ∀ x ∈ L, x.2.natAbs < 2 ^ 200) : ∀ x ∈ L, x.2.natAbs < 2 ^ 1000 := fun x hx => Nat.lt_of_lt_of_le (hL x hx) (by decide +kernel)
theorem canon_bd {L : List (Nat × Int)} {B : Nat} (hL : ∀ x ∈ L, x.2.natAbs < 2 ^ B) : ∀ x ∈ canon L, x.2.natAbs < 2 ^ B := fun x hx => by
  have e := mem_getL (L := canon L) (c := x.1) (n := x.2) (mk_nd _ _) hx
  rw [canon_get] at e
  exact hL _ (getL_mem e)
theorem alph_ok : (alph.cps.toList.all fun c => PyData.strOk (sg c)) = true := by decide +kernel
theorem sg_ok {cs : List Nat} (h : ∀ c ∈ cs, c ∈ alph.cps.toList) : ∀ c ∈ cs, PyData.strOk (sg c) = true := fun c hc => List.all_eq_true.mp alph_ok c (h c hc)
/-- a row: a catalog and its dict -/
def Row (C : Addr) (cs : List Nat) (H : Hp) (y : V) : Prop := ∃ (t p d : Addr) (M : List (Nat × Int)), y = .ref t ∧ H t = some (.tup [.ref p, .ref d]) ∧ CatAt C H p (canon M) ∧ DA H d M ∧ M.length ≤ 899 ∧ ∀ c ∈ M.map (·.1), c ∈ cs
theorem Row.keep {C : Addr} {cs : List Nat} {H H' : Hp} {y : V} (h : Row C cs H y) (k : Same H H') : Row C cs H' y := by
  obtain ⟨t, p, d, M, e, h1, h2, h3, h4, h5⟩ := h
  exact ⟨t, p, d, M, e, k _ _ h1, h2.keep k, h3.keep k, h4, h5⟩
theorem Row.kp {C a : Addr} {cs : List Nat} {H H' : Hp} {y : V} {xs : List V} (h : Row C cs H y) (k : Kp a H H') (ha : H a = some (.lst xs)) : Row C cs H' y := by
  obtain ⟨t, p, d, M, e, h1, h2, h3, h4, h5⟩ := h
  exact ⟨t, p, d, M, e, k _ _ h1 (ne_of h1 ha (fun z => nomatch z)), h2.kp k ha, h3.kp k ha, h4, h5⟩
end DO

namespace DO
open PySem PySem.Spec PyProof.Rows L2
section
variable {P : Program} {w : World} {K : PySem.W.Frag} {mg : Str → Option Value} {base : Heap}
abbrev sLaw : Stmt := top 19
theorem scLaw : FnScope ["_law_script", "_law_source_here", "_law_many", "_law_signs_here", "_law_one", "_law_two", "_law_times", "_law_texts", "_law_passed", "_law_first", "_law_second", "_law_rows", "_law_back", "_law_row", "_law_other", "_law_k"] ["_law_script"] (defScope sLaw) := ⟨rfl, rfl, rfl, by decide +kernel, rfl, by decide +kernel, by decide +kernel⟩
/-- what stands from the second catalog on -/
structure Bs (C so c sl tl x1 x2 d1 d2 : Addr) (cs : List Nat) (ts : List (List Nat)) (L N : List (Nat × Int)) (H : Hp) : Prop where
  sr : Src H so c
  sl : H sl = some (.lst (SgL cs))
  tl : H tl = some (.lst (TxL ts))
  a1 : CatAt C H x1 (canon L)
  a2 : CatAt C H x2 (canon N)
  e1 : DA H d1 L
  e2 : DA H d2 N
theorem Src.kp {H H' : Hp} {s c r : Addr} (h : Src H s c) (k : Kp r H H') (n1 : s ≠ r) (n2 : c ≠ r) : Src H' s c := by
  obtain ⟨a0, a1, ns, h1, h2, h3, h4⟩ := h
  exact ⟨a0, a1, ns, k _ _ h1 n1, h2, k _ _ h3 n2, h4⟩
theorem Bs.keep {C so c sl tl x1 x2 d1 d2 : Addr} {cs : List Nat} {ts : List (List Nat)} {L N : List (Nat × Int)} {H H' : Hp} (h : Bs C so c sl tl x1 x2 d1 d2 cs ts L N H) (k : Same H H') : Bs C so c sl tl x1 x2 d1 d2 cs ts L N H' :=
  ⟨h.sr.of_same k, k _ _ h.sl, k _ _ h.tl, h.a1.keep k, h.a2.keep k, h.e1.keep k, h.e2.keep k⟩
theorem Bs.kp {C so c sl tl x1 x2 d1 d2 r : Addr} {cs : List Nat} {ts : List (List Nat)} {L N : List (Nat × Int)} {H H' : Hp} {xs : List V} (h : Bs C so c sl tl x1 x2 d1 d2 cs ts L N H) (k : Kp r H H') (hr : H r = some (.lst xs)) (n : so ≠ r ∧ c ≠ r ∧ sl ≠ r ∧ tl ≠ r) : Bs C so c sl tl x1 x2 d1 d2 cs ts L N H' :=
  ⟨h.sr.kp k n.1 n.2.1, k _ _ h.sl n.2.2.1, k _ _ h.tl n.2.2.2, h.a1.kp k hr, h.a2.kp k hr, h.e1.kp k hr, h.e2.kp k hr⟩
/-- the rows so far -/
structure Rs (C rl : Addr) (cs : List Nat) (n : Nat) (xs : List V) (H : Hp) : Prop where
  at_ : H rl = some (.lst xs)
  len : xs.length = n
  rows : ∀ y ∈ xs, Row C cs H y
theorem Rs.keep {C rl : Addr} {cs : List Nat} {n : Nat} {xs : List V} {H H' : Hp} (h : Rs C rl cs n xs H) (k : Same H H') : Rs C rl cs n xs H' := ⟨k _ _ h.at_, h.len, fun y hy => (h.rows y hy).keep k⟩
theorem Rs.kp {C rl a : Addr} {cs : List Nat} {n : Nat} {xs ys : List V} {H H' : Hp} (h : Rs C rl cs n xs H) (k : Kp a H H') (ha : H a = some (.lst ys)) (ne : rl ≠ a) : Rs C rl cs n xs H' := ⟨k _ _ h.at_ ne, h.len, fun y hy => (h.rows y hy).kp k ha⟩
theorem Rs.push {C rl : Addr} {cs : List Nat} {n : Nat} {xs : List V} {H : Hp} {y : V} (h : Rs C rl cs n xs H) (hy : Row C cs H y) : Rs C rl cs (n + 1) (xs ++ [y]) (upd H rl (.lst (xs ++ [y]))) :=
  ⟨upd_same, by rw [List.length_append, h.len]; rfl, fun z hz => by
    rcases List.mem_append.mp hz with q | q
    · exact (h.rows z q).kp Kp.upd h.at_
    · rw [List.mem_singleton.mp q]
      exact hy.kp Kp.upd h.at_⟩
theorem Rs.lt {C rl : Addr} {cs : List Nat} {n : Nat} {xs : List V} {H : Hp} (h : Rs C rl cs n xs H) (hn : n < 1000) : xs.length < sizeLine := by
  rw [h.len]
  exact small1000 (by omega)
theorem Row.mk' {C : Addr} {cs : List Nat} {H : Hp} {t p d : Addr} {M : List (Nat × Int)} (h1 : H t = some (.tup [.ref p, .ref d])) (h2 : CatAt C H p (canon M)) (h3 : DA H d M) (h4 : M.length ≤ 899) (h5 : ∀ c ∈ M.map (·.1), c ∈ cs) : Row C cs H (.ref t) := ⟨t, p, d, M, rfl, h1, h2, h3, h4, h5⟩
def spLaw (K : PySem.W.Frag) : Sp := fun vs H Q _ => ∃ (a : Addr) (ns : List Int), vs = [.ref a] ∧ SqL K H a (ns.map V.int) ∧ ns.length ≤ 63 ∧ ∀ H', Q (.bl true) H'
theorem ok_law {C : Addr} (T : Cat K mg C) (D : Df K mg "law" sLaw ["_law_script"])
    (D6 : Df K mg "_law_source" sSource ["_law_script"]) (G6 : FnOk P w K mg base CX0 1 D6.f D6.fd ["_law_script"] (spSource K))
    (D7 : Df K mg "_law_take" sTake ["_law_source_here", "_law_many"]) (G7 : FnOk P w K mg base CX0 2 D7.f D7.fd ["_law_source_here", "_law_many"] spTake)
    (D8 : Df K mg "_law_signs" sSigns ["_law_source_here", "_law_many"]) (G8 : FnOk P w K mg base CX0 3 D8.f D8.fd ["_law_source_here", "_law_many"] spSigns)
    (D9 : Df K mg "_law_text" sText ["_law_source_here", "_law_signs_here", "_law_size"]) (G9 : FnOk P w K mg base CX0 3 D9.f D9.fd ["_law_source_here", "_law_signs_here", "_law_size"] spText)
    (D10 : Df K mg "_law_number" sNumber ["_law_source_here"]) (G10 : FnOk P w K mg base CX0 3 D10.f D10.fd ["_law_source_here"] spNumber)
    (D11 : Df K mg "_law_lengths" sLengths ["_law_source_here", "_law_signs_here"]) (G11 : FnOk P w K mg base CX0 4 D11.f D11.fd ["_law_source_here", "_law_signs_here"] spLengths)
    (DC : Df K mg "_law_combined" sCombined ["_law_one", "_law_two", "_law_factor"]) (GC : FnOk P w K mg base CX0 1 DC.f DC.fd ["_law_one", "_law_two", "_law_factor"] spCombined)
    (DL : Df K mg "_law_scaled" sScaled ["_law_lengths_here", "_law_times"]) (GL : FnOk P w K mg base CX0 1 DL.f DL.fd ["_law_lengths_here", "_law_times"] spScaled)
    (DF : Df K mg "_law_fits" sFits ["_law_catalog", "_law_lengths_here", "_law_signs_here", "_law_texts"]) (GF : FnOk P w K mg base CX0 4 DF.f DF.fd ["_law_catalog", "_law_lengths_here", "_law_signs_here", "_law_texts"] (spFits C))
    (DE : Df K mg "_law_equal_right" sEqR ["_law_one", "_law_lengths_here", "_law_other"]) (GE : FnOk P w K mg base CX0 4 DE.f DE.fd ["_law_one", "_law_lengths_here", "_law_other"] (spEqR C))
    (DQ : Df K mg "_law_equals_right" sEqs ["_law_source_here", "_law_catalog", "_law_lengths_here", "_law_signs_here"]) (GQ : FnOk P w K mg base CX0 5 DQ.f DQ.fd ["_law_source_here", "_law_catalog", "_law_lengths_here", "_law_signs_here"] (spEqs C))
    (MI : Mf K C "__init__" "Catalog.__init__" sIni ["self", "lengths"]) (GI : FnOk P w K mg base CX0 2 MI.f MI.fd ["self", "lengths"] (spIniF C))
    (MA : Mf K C "__add__" "Catalog.__add__" sAdd ["self", "other"]) (GA : FnOk P w K mg base CX0 4 MA.f MA.fd ["self", "other"] (spBin C fun a b => a + b))
    (MS : Mf K C "__sub__" "Catalog.__sub__" sSub ["self", "other"]) (GS : FnOk P w K mg base CX0 4 MS.f MS.fd ["self", "other"] (spBin C fun a b => a - b))
    (MM : Mf K C "__mul__" "Catalog.__mul__" sMul ["self", "other"]) (GM : FnOk P w K mg base CX0 4 MM.f MM.fd ["self", "other"] (spMul C))
    (MR : Mf K C "__rmul__" "Catalog.__rmul__" sRmu ["self", "other"]) (GR : FnOk P w K mg base CX0 5 MR.f MR.fd ["self", "other"] (spMul C))
    (ME : Mf K C "__eq__" "Catalog.__eq__" sEq ["self", "other"]) (GE2 : FnOk P w K mg base CX0 1 ME.f ME.fd ["self", "other"] (spEqC K C)) (MK : Mk K C MI.f)
    {pA gA : Addr} {fdL : FuncData} (PO : PropOf K C "letters" pA gA) (GLt : FnOk P w K mg base CX0 1 gA fdL ["self"] (getSp C "_letters")) (bLt : Binds K fdL ["self"] [])
    (ml : mg "list" = none) (mln : mg "len" = none) (mdi : mg "dict" = none) (mr : mg "range" = none) : FnOk P w K mg base CX0 6 D.f D.fd ["_law_script"] (spLaw K) := by
  refine D.fn.ok scLaw (fun vs H Q E h => ?_) (fun cdv A outer s H vs Q E hr h => ?_)
  · obtain ⟨a, ns, rfl, _⟩ := h
    rfl
  · obtain ⟨a, ns, rfl, hS, hlen, k⟩ := h
    have hu := hu_of hr
    have hr1 : Room 1 _ := hr.mono (by decide)
    have hr2 : Room (1 + 1) _ := hr.mono (by decide)
    have hr3 : Room (2 + 1) _ := hr.mono (by decide)
    have hr4 : Room 4 _ := hr.mono (by decide)
    have hr5 : Room 5 _ := hr
    refine ⟨_, (pss_cons (ps_set (i := 1) scLaw.nd rfl (.inr rfl) (pe_call G6 (hr.mono (by decide)) (by rfl) D6.mgf D6.fn.kp D6.bd .nil pass0 (pa_cons (pv 0) pa_nil)))
      (pss_cons (ps_set (i := 2) scLaw.nd rfl (.inl rfl) (pe_op op_addL pe_int (pe_call G7 (hr.mono (by decide)) (by rfl) D7.mgf D7.fn.kp D7.bd .nil pass0 (pa_cons (pv 1) (pa_cons pe_int pa_nil)))))
      (C8.pss_cut (ps_if (pt_cmpR op_eq (pe_call G7 (hr.mono (by decide)) (by rfl) D7.mgf D7.fn.kp D7.bd .nil pass0 (pa_cons (pv 1) (pa_cons pe_int pa_nil))) pe_int (nomark _))
      (pss_one (ps_set (i := 2) scLaw.nd rfl (.inl rfl) (pe_op op_addL pe_int (pe_call G7 (hr.mono (by decide)) (by rfl) D7.mgf D7.fn.kp D7.bd .nil pass0 (pa_cons (pv 1) (pa_cons pe_int pa_nil))))))
      pss_nil)
      (pss_cons (ps_set (i := 3) scLaw.nd rfl (.inr rfl) (pe_call G8 (hr.mono (by decide)) (by rfl) D8.mgf D8.fn.kp D8.bd .nil pass0 (pa_cons (pv 1) (pa_cons (pv 2) pa_nil))))
      (pss_cons (ps_set (i := 4) scLaw.nd rfl (.inl rfl) (pe_call G11 (hr.mono (by decide)) (by rfl) D11.mgf D11.fn.kp D11.bd .nil pass0 (pa_cons (pv 1) (pa_cons (pv 3) pa_nil))))
      (pss_cons (ps_set (i := 5) scLaw.nd rfl (.inl rfl) (pe_call G11 (hr.mono (by decide)) (by rfl) D11.mgf D11.fn.kp D11.bd .nil pass0 (pa_cons (pv 1) (pa_cons (pv 3) pa_nil))))
      (pss_cons (ps_set (i := 6) scLaw.nd rfl (.inl rfl) (pe_call G10 (hr.mono (by decide)) (by rfl) D10.mgf D10.fn.kp D10.bd .nil pass0 (pa_cons (pv 1) pa_nil)))
      (pss_cons (ps_set (i := 7) scLaw.nd rfl (.inl rfl) (pe_op op_cat (pe_lc (own := [("_law_k", 15)]) (g := gName 15) (tt := tYes) rfl scLaw.nd (pi_range1 rfl mr (pa_cons pe_int pa_nil)) (blkOk_by (N := ["_law_script", "_law_source_here", "_law_many", "_law_signs_here", "_law_one", "_law_two", "_law_times", "_law_texts", "_law_passed", "_law_first", "_law_second", "_law_rows", "_law_back", "_law_row", "_law_other", "_law_k"]) (sc := defScope sLaw) (by decide +kernel)) (fun _ _ _ _ _ => pg_name (i := 15) scLaw.nd rfl (Or.inl rfl)) (fun _ _ _ _ _ => pts_nil) (fun _ _ _ _ _ => (pe_call G9 (hr.mono (by decide)) (by rfl) D9.mgf D9.fn.kp D9.bd .nil pass0 (pa_cons (pv 1) (pa_cons (pv 3) (pa_cons (pe_call G7 (hr.mono (by decide)) (by rfl) D7.mgf D7.fn.kp D7.bd .nil pass0 (pa_cons (pv 1) (pa_cons pe_int pa_nil))) pa_nil)))))) (pe_lst (pa_cons (pe_join pe_str (pv 3)) pa_nil))))
      (pss_cons (ps_set (i := 8) scLaw.nd rfl (.inl rfl) (pe_callTy call_dictD (by rfl) mdi (by decide +kernel) (pa_cons (pv 4) pa_nil)))
      (pss_cons (ps_set (i := 9) scLaw.nd rfl (.inl rfl) (pe_make MK GI hr3 rfl T.mgC MI.bd .nil pass0 (pa_cons (pv 8) pa_nil)))
      (pss_cons (ps_dput hu (pv 8) (pe_ix ix_list (pv 3) pe_int (fun _ _ => rfl)) (pe_op op_addL (pe_dget2 hu (pv 8) (pe_ix ix_list (pv 3) pe_int (fun _ _ => rfl)) pe_int ⟨rfl, rfl, rfl, rfl⟩) pe_int) rfl)
      (pss_cons (ps_set (i := 10) scLaw.nd rfl (.inl rfl) (pe_make MK GI hr3 rfl T.mgC MI.bd .nil pass0 (pa_cons (pe_callTy call_dictD (by rfl) mdi (by decide +kernel) (pa_cons (pv 5) pa_nil)) pa_nil)))
      (pss_cons (ps_set (i := 11) scLaw.nd rfl (.inl rfl) (pe_lst (pa_cons (pe_tup (pa_cons (pv 9) (pa_cons (pv 4) pa_nil))) (pa_cons (pe_tup (pa_cons (pv 10) (pa_cons (pv 5) pa_nil))) (pa_cons (pe_tup (pa_cons (pe_op (op_binO (op := .Add) rfl MA.me T.sf GA hr4 MA.bd pass0) (pv 9) (pv 10)) (pa_cons (pe_call GC (hr.mono (by decide)) (by rfl) DC.mgf DC.fn.kp DC.bd .nil pass0 (pa_cons (pv 4) (pa_cons (pv 5) (pa_cons pe_int pa_nil)))) pa_nil))) pa_nil)))))
      (pss_cons (ps_expr (pe_bm PySem.F.plainAttrs_list PySem.F.slot_list_append PySem.F.type_list_append mt_append (pv 11) (pa_cons (pe_tup (pa_cons (pe_op (op_binO (op := .Sub) rfl MS.me T.sf GS hr4 MS.bd pass0) (pv 9) (pv 10)) (pa_cons (pe_call GC (hr.mono (by decide)) (by rfl) DC.mgf DC.fn.kp DC.bd .nil pass0 (pa_cons (pv 4) (pa_cons (pv 5) (pa_cons (pe_un un_neg pe_int) pa_nil)))) pa_nil))) pa_nil)))
      (pss_cons (ps_expr (pe_bm PySem.F.plainAttrs_list PySem.F.slot_list_append PySem.F.type_list_append mt_append (pv 11) (pa_cons (pe_tup (pa_cons (pe_op (op_binI (op := .Mult) rfl rfl MM.me T.sf MR.me.at_ (.inr ⟨_, rfl⟩) T.im T.ir T.sI GM hr4 MM.bd pass0) (pv 9) (pv 6)) (pa_cons (pe_call GL (hr.mono (by decide)) (by rfl) DL.mgf DL.fn.kp DL.bd .nil pass0 (pa_cons (pv 4) (pa_cons (pv 6) pa_nil))) pa_nil))) pa_nil)))
      (pss_cons (ps_expr (pe_bm PySem.F.plainAttrs_list PySem.F.slot_list_append PySem.F.type_list_append mt_append (pv 11) (pa_cons (pe_tup (pa_cons (pe_op (op_mulB MM.me MR.me T.sf T.im T.ir rfl (T.kB "int" (by simp)).2.2 GR hr5 MR.bd pass0) (pv 6) (pv 10)) (pa_cons (pe_call GL (hr.mono (by decide)) (by rfl) DL.mgf DL.fn.kp DL.bd .nil pass0 (pa_cons (pv 5) (pa_cons (pv 6) pa_nil))) pa_nil))) pa_nil)))
      (pss_cons (ps_expr (pe_bm PySem.F.plainAttrs_list PySem.F.slot_list_append PySem.F.type_list_append mt_append (pv 11) (pa_cons (pe_tup (pa_cons (pe_op (op_binI (op := .Mult) rfl rfl MM.me T.sf MR.me.at_ (.inr ⟨_, rfl⟩) T.im T.ir T.sI GM hr4 MM.bd pass0) (pe_op (op_binO (op := .Add) rfl MA.me T.sf GA hr4 MA.bd pass0) (pv 9) (pv 10)) (pv 6)) (pa_cons (pe_call GL (hr.mono (by decide)) (by rfl) DL.mgf DL.fn.kp DL.bd .nil pass0 (pa_cons (pe_call GC (hr.mono (by decide)) (by rfl) DC.mgf DC.fn.kp DC.bd .nil pass0 (pa_cons (pv 4) (pa_cons (pv 5) (pa_cons pe_int pa_nil)))) (pa_cons (pv 6) pa_nil))) pa_nil))) pa_nil)))
      (pss_cons (ps_set (i := 12) scLaw.nd rfl (.inl rfl) (pe_call GC (hr.mono (by decide)) (by rfl) DC.mgf DC.fn.kp DC.bd .nil pass0 (pa_cons (pe_call GC (hr.mono (by decide)) (by rfl) DC.mgf DC.fn.kp DC.bd .nil pass0 (pa_cons (pv 4) (pa_cons (pv 5) (pa_cons pe_int pa_nil)))) (pa_cons (pv 5) (pa_cons (pe_un un_neg pe_int) pa_nil)))))
      (pss_cons (ps_expr (pe_bm PySem.F.plainAttrs_list PySem.F.slot_list_append PySem.F.type_list_append mt_append (pv 11) (pa_cons (pe_tup (pa_cons (pe_op (op_binO (op := .Sub) rfl MS.me T.sf GS hr4 MS.bd pass0) (pe_op (op_binO (op := .Add) rfl MA.me T.sf GA hr4 MA.bd pass0) (pv 9) (pv 10)) (pv 10)) (pa_cons (pv 12) pa_nil))) pa_nil)))
      (pss_cons (ps_expr (pe_bm PySem.F.plainAttrs_list PySem.F.slot_list_append PySem.F.type_list_append mt_append (pv 11) (pa_cons (pe_tup (pa_cons (pv 9) (pa_cons (pv 4) pa_nil))) pa_nil)))
      (pss_cons (ps_expr (pe_bm PySem.F.plainAttrs_list PySem.F.slot_list_append PySem.F.type_list_append mt_append (pv 11) (pa_cons (pe_tup (pa_cons (pv 10) (pa_cons (pv 5) pa_nil))) pa_nil)))
      (pss_cons (ps_for PassesOwn.never rfl (pi_list (pv 11)) (pg_name (i := 13) scLaw.nd rfl (Or.inl rfl))
      (pss_one (ps_if (pt_not (pt_val (pe_call GF (hr.mono (by decide)) (by rfl) DF.mgf DF.fn.kp DF.bd .nil pass0 (pa_cons (pe_ix ix_tup (pv 13) pe_int (fun _ _ => rfl)) (pa_cons (pe_ix ix_tup (pv 13) pe_int (fun _ _ => rfl)) (pa_cons (pv 3) (pa_cons (pv 7) pa_nil)))))))
      (pss_one (ps_ret pe_bl))
      pss_nil)))
      (pss_cons (ps_for PassesOwn.never rfl (pi_list (pe_slice sl_list (pv 11) po_none (po_some pe_int))) (pg_name (i := 13) scLaw.nd rfl (Or.inl rfl))
      (pss_one (ps_if (pt_not (pt_val (pe_call GQ (hr.mono (by decide)) (by rfl) DQ.mgf DQ.fn.kp DQ.bd .nil pass0 (pa_cons (pv 1) (pa_cons (pe_ix ix_tup (pv 13) pe_int (fun _ _ => rfl)) (pa_cons (pe_ix ix_tup (pv 13) pe_int (fun _ _ => rfl)) (pa_cons (pv 3) pa_nil)))))))
      (pss_one (ps_ret pe_bl))
      pss_nil)))
      (pss_cons (ps_for PassesOwn.never rfl (pi_list (pe_lst (pa_cons (pe_callTy call_dictD (by rfl) mdi (by decide +kernel) (pa_cons (pv 4) pa_nil)) (pa_cons (pe_callTy (call_list_dK rfl) (by rfl) ml (by decide +kernel) (pa_cons (pv 4) pa_nil)) (pa_cons (pe_prop (pv 9) T.cl PO GLt hr2 bLt .nil pass0 rfl) (pa_cons (pe_callB call_lenD (by rfl) mln PySem.boot_len (pa_cons (pv 4) pa_nil)) (pa_cons pe_non pa_nil))))))) (pg_name (i := 14) scLaw.nd rfl (Or.inl rfl))
      (pss_one (ps_if (PW.pt (pw_or (pt_cmpR op_notBl (pe_cmpR (op_eqO ME.me GE2 hr1 ME.bd pass0) (pv 9) (pv 14) (nomark _)) pe_bl (nomark _)) (pw_or1 (pt_cmpR op_notBl (pe_cmpR (op_eqB ME.me GE2 hr1 ME.bd pass0) (pv 14) (pv 9) (nomark _)) pe_bl (nomark _)))))
      (pss_one (ps_ret pe_bl))
      pss_nil)))
      (pss_one (ps_ret (pe_call GE (hr.mono (by decide)) (by rfl) DE.mgf DE.fn.kp DE.bd .nil pass0 (pa_cons (pe_op (op_binO (op := .Sub) rfl MS.me T.sf GS hr4 MS.bd pass0) (pe_op (op_binO (op := .Add) rfl MA.me T.sf GA hr4 MA.bd pass0) (pv 9) (pv 10)) (pv 10)) (pa_cons (pv 12) (pa_cons (pv 4) pa_nil)))))))))))))))))))))))))))))), ?_⟩
    refine ⟨_, rfl, a, ns, rfl, hS, hlen, fun so c H1 nso nc s1 sr1 => ?_⟩
    refine ⟨_, rfl, so, c, 6, rfl, sr1, by decide, by decide, fun t1 H2 t10 t11 kp2 sr2 => ⟨_, _, rfl, rfl, fun m0 em0 => ?_⟩⟩
    refine ⟨fun σ' H' => ∃ m : Int, σ' = [some (.ref a), some (.ref so), some (.int m), none, none, none, none, none, none, none, none, none, none, none, none, none] ∧ 1 ≤ m ∧ m ≤ 93 ∧ Src H' so c, ?_, ?_⟩
    · refine ⟨_, rfl, so, c, 8, rfl, sr2, by decide, by decide, fun t2 H3 _ _ kp3 sr3 => ⟨rfl, _, rfl, ite2 (fun _ => ?_) (fun _ => ?_)⟩⟩
      · refine ⟨_, rfl, so, c, 34, rfl, sr3, by decide, by decide, fun t3 H4 t30 t31 kp4 sr4 => ⟨_, _, rfl, rfl, fun m1 em1 => ?_⟩⟩
        exact ⟨m1, rfl, by omega, by omega, sr4⟩
      · exact ⟨m0, rfl, by omega, by omega, sr3⟩
    rintro σ H4 ⟨m, rfl, m1, m93, sr4⟩
    refine ⟨_, rfl, _, rfl, so, c, m, rfl, sr4, m1, m93, fun cs sl H5 nsl kp5 sr5 hsl hcl hal => ?_⟩
    have nss : sl ≠ so := fun e => by
      subst e
      obtain ⟨_, _, _, z, _⟩ := sr4
      rw [nsl] at z
      cases z
    refine ⟨_, rfl, _, rfl, so, c, sl, cs, rfl, sr5, nss, hsl, by omega, fun L d1 H6 nd1 LD1 hin1 kp6 sr6 => ?_⟩
    have hsl6 := kp6 _ _ hsl nss
    refine ⟨_, rfl, _, rfl, so, c, sl, cs, rfl, sr6, nss, hsl6, by omega, fun N d2 H7 nd2 LD2 hin2 kp7 sr7 => ?_⟩
    have hsl7 := kp7 _ _ hsl6 nss
    obtain ⟨_, _, _, hs6, _⟩ := id sr6
    obtain ⟨_, _, _, hs7, _⟩ := id sr7
    have LD1' := LD1.of (kp7 _ _ LD1.dk (ne_of LD1.dk hs6 (fun z => nomatch z)))
    refine ⟨_, rfl, so, c, rfl, sr7, fun tm H8 htm kp8 sr8 => ?_⟩
    have hsl8 := kp8 _ _ hsl7 nss
    have E1 := LD1'.of (kp8 _ _ LD1'.dk (ne_of LD1'.dk hs7 (fun z => nomatch z)))
    have E2 := LD2.of (kp8 _ _ LD2.dk (ne_of LD2.dk hs7 (fun z => nomatch z)))
    obtain ⟨_, _, _, hs8, _⟩ := id sr8
    -- the texts
    refine ⟨3, rfl, by decide, by decide, fun td ntd => lc_range (lo := 0) (n := 3) (fun i H' => ∃ ts : List (List Nat), H' td = some (.lst (TxL ts)) ∧ ts.length = i ∧ (∀ ds ∈ ts, ds.length ≤ 1000) ∧ Kp so H8 H' ∧ Src H' so c) ⟨[], upd_same, rfl, fun x hx => by simp at hx, Kp.same (same_upd ntd), sr8.of_same (same_upd ntd)⟩ ?_ ?_⟩
    · rintro i H' hi ⟨ts, htd, hlt, hts, kp9, sr9⟩
      have tds : td ≠ so := fun e => by
        subst e
        rw [hs8] at ntd
        cases ntd
      refine ⟨rfl, ?_⟩
      refine ⟨_, rfl, _, rfl, _, rfl, so, c, 9, rfl, sr9, by decide, by decide, fun t9 H10 t90 t91 kp10 sr10 => ?_⟩
      have kp810 := kp9.trans kp10
      refine ⟨so, c, sl, cs, t9, rfl, sr10, nss, kp810 _ _ hsl8 nss, by omega, by omega, t90, by omega, fun ds H11 hdl hds kp11 sr11 => ?_⟩
      have htd11 := kp11 _ _ (kp10 _ _ htd tds) tds
      have tdc : c ≠ td := fun e => by
        subst e
        obtain ⟨_, _, _, _, _, z, _⟩ := sr8
        rw [ntd] at z
        cases z
      refine ⟨_, htd11, by unfold TxL; rw [List.length_map]; exact small1000 (by omega), ts ++ [ds], ?_, by rw [List.length_append, hlt]; rfl, fun x hx => ?_, fun b o eb nb => ?_, sr11.of_upd tds.symm tdc⟩
      · rw [upd_same]
        unfold TxL
        rw [List.map_append]
        rfl
      · rcases List.mem_append.mp hx with z | z
        · exact hts x z
        · rw [List.mem_singleton.mp z]
          omega
      · rw [upd_ne (ne_of_none eb ntd)]
        exact kp11 _ _ (kp810 _ _ eb nb) nb
    rintro H12 ⟨ts, htd, hlt, hts, kp12, sr12⟩
    have hsl12 := kp12 _ _ hsl8 nss
    refine ⟨⟨_, rfl⟩, _, rfl, _, sl, cs.map sg, rfl, rfl, .inl (sql_of (by rw [← SgL_str]; exact hsl12)), join_room (by omega), ?_⟩
    rw [join_tx]
    refine ⟨(by show 1 ≤ sizeLine; decide), fun q nq => ?_⟩
    have s13 := same_upd (o := .lst [V.str (tx cs)]) nq
    refine ⟨td, q, _, _, rfl, rfl, s13 _ _ htd, upd_same, ?_, fun tl ntl => ?_⟩
    · unfold TxL
      rw [List.length_map, hlt]
      show 3 + 1 ≤ sizeLine
      decide
    have s14 := same_upd (o := .lst (TxL ts ++ [V.str (tx cs)])) ntl
    have htl : (upd (upd H12 q (.lst [V.str (tx cs)])) tl (.lst (TxL ts ++ [V.str (tx cs)]))) tl = some (.lst (TxL (ts ++ [cs]))) := by
      rw [upd_same]
      unfold TxL
      rw [List.map_append]
      rfl
    have tls : tl ≠ so := by
      obtain ⟨_, _, _, z, _⟩ := id (sr12.of_same s13)
      exact (ne_of_none z ntl).symm
    have sr14 := (sr12.of_same s13).of_same s14
    have hsl14 := s14 _ _ (s13 _ _ hsl12)
    have DA1 : DA H8 d1 L := ⟨E1.dk, E1.nd, Nat.le_trans E1.sz (by decide)⟩
    have DA2 : DA H8 d2 N := ⟨E2.dk, E2.nd, Nat.le_trans E2.sz (by decide)⟩
    have e14 := ((DA1.kp kp12 hs8).keep s13).keep s14
    have f14 := ((DA2.kp kp12 hs8).keep s13).keep s14
    generalize (upd (upd H12 q (.lst [V.str (tx cs)])) tl (.lst (TxL ts ++ [V.str (tx cs)]))) = H14 at htl sr14 hsl14 e14 f14
    have htsx : ∀ ds ∈ ts ++ [cs], ds.length ≤ 1000 := fun x hx => by
      rcases List.mem_append.mp hx with z | z
      · exact hts x z
      · rw [List.mem_singleton.mp z]
        omega
    generalize ts ++ [cs] = tz at htl htsx
    have hB1 := E1.bd
    have hB2 := E2.bd
    have hz1 := E1.sz
    have hz2 := E2.sz
    -- passed, first
    refine ⟨_, rfl, d1, _, rfl, .inl e14.dk, fun p3 np3 => ?_⟩
    have s15 := same_upd (o := .dK (LD L)) np3
    have p15 : DA (upd H14 p3 (.dK (LD L))) p3 L := ⟨upd_same, e14.nd, e14.sz⟩
    refine ⟨_, rfl, fun x1 dx1 nx1 ndx1 _ => ⟨x1, p3, dx1, L, rfl, upd_same, da_made p15 nx1 ndx1, e14.sz, fun H16 hF hC kp => ⟨rfl, ?_⟩⟩⟩
    have s16 := made_same nx1 ndx1 kp
    have s46 := s15.trans s16
    have p16 := p15.keep s16
    obtain ⟨c0, hc0, hat⟩ := SgL_at (cs := cs) (i := 0) (by decide) (by omega)
    have hsl16 := s46 _ _ hsl14
    refine ⟨_, rfl, p3, rfl, .inl ⟨_, .inl p16.dk⟩, _, rfl, sl, _, 0, _, rfl, rfl, sql_of hsl16, hat, _, DGet.k (k := Sum.inr (sg c0)) p16.dk, ?_⟩
    rw [gD_of]
    refine ⟨_, _, rfl, rfl, fun r1 _ => ⟨_, rfl, _, rfl, sl, _, 0, _, rfl, rfl, sql_of hsl16, hat, p3, _, rfl, DPut.k (k := Sum.inr (sg c0)) p16.dk (by rw [LD_len]; exact small1000 (by omega)), ?_⟩⟩
    have s17 : Kp p3 H16 (upd H16 p3 (.dK (putK (LD L) (Sum.inr (sg c0)) (.int r1)))) := Kp.upd
    generalize (upd H16 p3 (.dK (putK (LD L) (Sum.inr (sg c0)) (.int r1)))) = H17 at s17
    have sr16 := sr14.of_same s46
    obtain ⟨_, _, _, hs16, _, hc16, _⟩ := id sr16
    have sr17 := sr16.kp s17 (ne_of hs16 p16.dk (fun z => nomatch z)) (ne_of hc16 p16.dk (fun z => nomatch z))
    have hsl17 := s17 _ _ hsl16 (ne_of hsl16 p16.dk (fun z => nomatch z))
    have htl16 := s46 _ _ htl
    have htl17 := s17 _ _ htl16 (ne_of htl16 p16.dk (fun z => nomatch z))
    have e17 : DA H17 d1 L := ⟨s17 _ _ (s46 _ _ e14.dk) (ne_of_none e14.dk np3), e14.nd, e14.sz⟩
    have f17 : DA H17 d2 N := ⟨s17 _ _ (s46 _ _ f14.dk) (ne_of_none f14.dk np3), f14.nd, f14.sz⟩
    have a17 : CatAt C H17 x1 (canon L) := by
      obtain ⟨dq, e1, fre, i1, i2⟩ := hF
      exact ⟨⟨dq, e1, s17 _ _ i1 (ne_of i1 p16.dk (fun z => nomatch z)), s17 _ _ i2 (ne_of_none (da_made p15 nx1 ndx1) fre).symm⟩, hC.up, hC.sz⟩
    clear hF hC kp s16 s46 p16 hat sr16 hs16 hc16 htl16
    -- second
    refine ⟨_, rfl, d2, _, rfl, .inl f17.dk, fun p4 np4 => fun x2 dx2 nx2 ndx2 _ => ?_⟩
    have s18 := same_upd (o := .dK (LD N)) np4
    have p18 : DA (upd H17 p4 (.dK (LD N))) p4 N := ⟨upd_same, f17.nd, f17.sz⟩
    refine ⟨x2, p4, dx2, N, rfl, upd_same, da_made p18 nx2 ndx2, f17.sz, fun H19 _ hC2 kp19 => ⟨rfl, ?_⟩⟩
    have s19 := s18.trans (made_same nx2 ndx2 kp19)
    have B : Bs C so c sl tl x1 x2 d1 d2 cs tz L N H19 := ⟨sr17.of_same s19, s19 _ _ hsl17, s19 _ _ htl17, a17.keep s19, hC2, e17.keep s19, f17.keep s19⟩
    clear hC2 kp19 s19 p18 s18 sr17 hsl17 htl17 e17 f17 a17 s17
    have lc1 := canon_len L
    have lc2 := canon_len N
    have kL : ∀ c ∈ L.map (·.1), c ∈ cs := fun c hc => by
      obtain ⟨p, hp, rfl⟩ := List.mem_map.mp hc
      exact hin1 p hp
    have kN : ∀ c ∈ N.map (·.1), c ∈ cs := fun c hc => by
      obtain ⟨p, hp, rfl⟩ := List.mem_map.mp hc
      exact hin2 p hp
    have kC : ∀ f, ∀ c ∈ (comb f L N).map (·.1), c ∈ cs := fun f c hc => (comb_key.mp hc).elim (kL c) (kN c)
    have two : 2 ≤ sizeLine := by decide
    -- rows
    obtain ⟨_, _, j1, _⟩ := id B.a1.ob
    obtain ⟨_, _, j2, _⟩ := id B.a2.ob
    refine ⟨_, rfl, _, rfl, two, fun t1 nt1 => ?_⟩
    have s20 := same_upd (o := .tup [V.ref x1, V.ref d1]) nt1
    refine ⟨_, rfl, _, rfl, two, fun t2 nt2 => ?_⟩
    have s21 := same_upd (o := .tup [V.ref x2, V.ref d2]) nt2
    have g1 := s21 _ _ (upd_same (H := H19) (a := t1) (o := .tup [V.ref x1, V.ref d1]))
    have g2 := upd_same (H := upd H19 t1 (.tup [V.ref x1, V.ref d1])) (a := t2) (o := .tup [V.ref x2, V.ref d2])
    have B21 := (B.keep s20).keep s21
    have s191 := s20.trans s21
    generalize (upd (upd H19 t1 (.tup [V.ref x1, V.ref d1])) t2 (.tup [V.ref x2, V.ref d2])) = H21 at g1 g2 B21 s191
    refine ⟨_, rfl, _, rfl, x1, _, _, x2, _, _, rfl, rfl, s191 _ _ j1, s191 _ _ j2, x1, x2, canon L, canon N, rfl, B21.a1, B21.a2, by omega, fun r3 H22 _ s22 hc3 => ?_⟩
    rw [mk_add] at hc3
    have B22 := B21.keep s22
    refine ⟨_, rfl, _, rfl, d1, d2, L, N, 1, rfl, B22.e1, B22.e2, by omega, .inl rfl, fun g3 H23 _ s23 hd3 => ⟨two, fun t3 nt3 => ⟨(by show 3 ≤ sizeLine; decide), fun rl nrl => ?_⟩⟩⟩
    have s24 := same_upd (o := .tup [V.ref r3, V.ref g3]) nt3
    have s25 := same_upd (o := .lst [V.ref t1, V.ref t2, V.ref t3]) nrl
    have cl1 := comb_len 1 L N
    have hn : so ≠ rl ∧ c ≠ rl ∧ sl ≠ rl ∧ tl ≠ rl := by
      have b := ((B22.keep s23).keep s24)
      obtain ⟨_, _, _, z1, _, z2, _⟩ := b.sr
      exact ⟨ne_of_none z1 nrl, ne_of_none z2 nrl, ne_of_none b.sl nrl, ne_of_none b.tl nrl⟩
    have S25 := s22.trans (s23.trans (s24.trans s25))
    have B25 := B21.keep S25
    have R25 : Rs C rl cs 3 [V.ref t1, V.ref t2, V.ref t3] (upd (upd H23 t3 (.tup [V.ref r3, V.ref g3])) rl (.lst [V.ref t1, V.ref t2, V.ref t3])) := ⟨upd_same, rfl, fun y hy => by
      rcases List.mem_cons.mp hy with z | hy
      · rw [z]
        exact Row.mk' (S25 _ _ g1) B25.a1 B25.e1 (by omega) kL
      rcases List.mem_cons.mp hy with z | hy
      · rw [z]
        exact Row.mk' (S25 _ _ g2) B25.a2 B25.e2 (by omega) kN
      · rw [List.mem_singleton.mp hy]
        exact Row.mk' (s25 _ _ upd_same) (((hc3.keep s23).keep s24).keep s25) ((hd3.keep s24).keep s25) (by omega) (kC 1)⟩
    have tmb : tm.natAbs < 2 ^ 1000 := Nat.lt_of_lt_of_le htm (by decide +kernel)
    generalize (upd (upd H23 t3 (.tup [V.ref r3, V.ref g3])) rl (.lst [V.ref t1, V.ref t2, V.ref t3])) = H25 at B25 R25
    generalize [V.ref t1, V.ref t2, V.ref t3] = xs3 at R25
    clear S25 s24 s25 hc3 hd3 s23 s22 B22 B21 g1 g2 s191 B
    obtain ⟨_, _, i1, _⟩ := id B25.a1.ob
    obtain ⟨_, _, i2, _⟩ := id B25.a2.ob
    -- first - second
    refine ⟨_, rfl, .inl ⟨rfl, _, sql_of R25.at_⟩, _, rfl, _, rfl, x1, _, _, x2, _, _, rfl, rfl, i1, i2, x1, x2, canon L, canon N, rfl, B25.a1, B25.a2, by omega, fun r Ha _ sa hc => ⟨_, rfl, _, rfl, _, rfl, d1, d2, L, N, -1, rfl, B25.e1.keep sa, B25.e2.keep sa, by omega, .inr rfl, fun g Hb _ sb hd => ⟨two, fun t nt => ?_⟩⟩⟩
    rw [mk_sub] at hc
    have cl := comb_len (-1) L N
    have st := same_upd (o := .tup [V.ref r, V.ref g]) nt
    have S := (sa.trans (sb.trans st))
    have Bn := B25.keep S
    have Rn := R25.keep S
    have row := Row.mk' (cs := cs) upd_same ((hc.keep sb).keep st) (hd.keep st) (by omega) (kC (-1))
    refine ⟨rl, _, _, rfl, rfl, Rn.at_, Rn.lt (by decide), ?_⟩
    have R26 := Rn.push row
    have B26 := Bn.kp (Kp.upd (o := .lst (xs3 ++ [V.ref t]))) Rn.at_ hn
    clear row
    clear Bn Rn S
    revert R26 B26
    generalize upd (upd Hb t (.tup [V.ref r, V.ref g])) rl (.lst (xs3 ++ [V.ref t])) = H26
    generalize xs3 ++ [V.ref t] = xs4
    intro R26 B26
    obtain ⟨_, _, i1, _⟩ := id B26.a1.ob
    obtain ⟨_, _, i2, _⟩ := id B26.a2.ob
    -- first * times
    refine ⟨_, rfl, .inl ⟨rfl, _, sql_of R26.at_⟩, _, rfl, _, rfl, x1, _, _, tm, rfl, rfl, i1, x1, canon L, tm, rfl, B26.a1, canon_bd (bd1000 hB1), tmb, fun r Ha _ sa hc => ⟨_, rfl, _, rfl, d1, L, tm, rfl, B26.e1.keep sa, bd1000 hB1, tmb, fun g Hb _ sb hd => ⟨two, fun t nt => ?_⟩⟩⟩
    rw [mk_scal] at hc
    have cl := scal_len tm L
    have st := same_upd (o := .tup [V.ref r, V.ref g]) nt
    have S := (sa.trans (sb.trans st))
    have Bn := B26.keep S
    have Rn := R26.keep S
    have row := Row.mk' (cs := cs) upd_same ((hc.keep sb).keep st) (hd.keep st) (by omega) (fun c hc => kL c (scal_key.mp hc))
    refine ⟨rl, _, _, rfl, rfl, Rn.at_, Rn.lt (by decide), ?_⟩
    have R27 := Rn.push row
    have B27 := Bn.kp (Kp.upd (o := .lst (xs4 ++ [V.ref t]))) Rn.at_ hn
    clear row
    clear Bn Rn S
    revert R27 B27
    generalize upd (upd Hb t (.tup [V.ref r, V.ref g])) rl (.lst (xs4 ++ [V.ref t])) = H27
    generalize xs4 ++ [V.ref t] = xs5
    intro R27 B27
    obtain ⟨_, _, i1, _⟩ := id B27.a1.ob
    obtain ⟨_, _, i2, _⟩ := id B27.a2.ob
    -- times * second
    refine ⟨_, rfl, .inl ⟨rfl, _, sql_of R27.at_⟩, _, rfl, _, rfl, x2, _, _, tm, rfl, rfl, i2, x2, canon N, tm, rfl, B27.a2, canon_bd (bd1000 hB2), tmb, fun r Ha _ sa hc => ⟨_, rfl, _, rfl, d2, N, tm, rfl, B27.e2.keep sa, bd1000 hB2, tmb, fun g Hb _ sb hd => ⟨two, fun t nt => ?_⟩⟩⟩
    rw [mk_scal] at hc
    have cl := scal_len tm N
    have st := same_upd (o := .tup [V.ref r, V.ref g]) nt
    have S := (sa.trans (sb.trans st))
    have Bn := B27.keep S
    have Rn := R27.keep S
    have row := Row.mk' (cs := cs) upd_same ((hc.keep sb).keep st) (hd.keep st) (by omega) (fun c hc => kN c (scal_key.mp hc))
    refine ⟨rl, _, _, rfl, rfl, Rn.at_, Rn.lt (by decide), ?_⟩
    have R28 := Rn.push row
    have B28 := Bn.kp (Kp.upd (o := .lst (xs5 ++ [V.ref t]))) Rn.at_ hn
    clear row
    clear Bn Rn S
    revert R28 B28
    generalize upd (upd Hb t (.tup [V.ref r, V.ref g])) rl (.lst (xs5 ++ [V.ref t])) = H28
    generalize xs5 ++ [V.ref t] = xs6
    intro R28 B28
    obtain ⟨_, _, i1, _⟩ := id B28.a1.ob
    obtain ⟨_, _, i2, _⟩ := id B28.a2.ob
    -- (first + second) * times
    refine ⟨_, rfl, .inl ⟨rfl, _, sql_of R28.at_⟩, _, rfl, _, rfl, x1, _, _, x2, _, _, rfl, rfl, i1, i2, x1, x2, canon L, canon N, rfl, B28.a1, B28.a2, by omega, fun r0 H0 _ s0 hc0 => ?_⟩
    rw [mk_add] at hc0
    obtain ⟨_, _, i0, _⟩ := id hc0.ob
    refine ⟨_, rfl, r0, _, _, tm, rfl, rfl, i0, r0, canon (comb 1 L N), tm, rfl, hc0, canon_bd (comb_bd (.inl rfl) hB1 hB2), tmb, fun r Ha _ sa hc => ⟨_, rfl, _, rfl, d1, d2, L, N, 1, rfl, (B28.keep s0).e1.keep sa, (B28.keep s0).e2.keep sa, by omega, .inl rfl, fun g0 Hb _ sb hd0 => ⟨_, rfl, g0, comb 1 L N, tm, rfl, hd0, comb_bd (.inl rfl) hB1 hB2, tmb, fun g Hc _ sc hd => ⟨two, fun t nt => ?_⟩⟩⟩⟩
    rw [mk_scal] at hc
    have cl := scal_len tm (comb 1 L N)
    have cl2 := comb_len 1 L N
    have st := same_upd (o := .tup [V.ref r, V.ref g]) nt
    have S := (s0.trans (sa.trans (sb.trans (sc.trans st))))
    have Bn := B28.keep S
    have Rn := R28.keep S
    have row := Row.mk' (cs := cs) upd_same (((hc.keep sb).keep sc).keep st) (hd.keep st) (by omega) (fun c hc => kC 1 c (scal_key.mp hc))
    refine ⟨rl, _, _, rfl, rfl, Rn.at_, Rn.lt (by decide), ?_⟩
    have R29 := Rn.push row
    have B29 := Bn.kp (Kp.upd (o := .lst (xs6 ++ [V.ref t]))) Rn.at_ hn
    clear row
    clear Bn Rn S
    revert R29 B29
    generalize upd (upd Hc t (.tup [V.ref r, V.ref g])) rl (.lst (xs6 ++ [V.ref t])) = H29
    generalize xs6 ++ [V.ref t] = xs7
    intro R29 B29
    obtain ⟨_, _, i1, _⟩ := id B29.a1.ob
    obtain ⟨_, _, i2, _⟩ := id B29.a2.ob
    -- back
    refine ⟨_, rfl, _, rfl, d1, d2, L, N, 1, rfl, B29.e1, B29.e2, by omega, .inl rfl, fun g0 Ha _ sa hd0 => ⟨_, rfl, _, rfl, g0, d2, comb 1 L N, N, -1, rfl, hd0, B29.e2.keep sa, by omega, .inr rfl, fun bk Hb _ sb hbk => ?_⟩⟩
    have B40 := (B29.keep sa).keep sb
    have R40 := (R29.keep sa).keep sb
    have kB : ∀ c ∈ (comb (-1) (comb 1 L N) N).map (·.1), c ∈ cs := fun c hc => (comb_key.mp hc).elim (kC 1 c) (kN c)
    have cl2 := comb_len (-1) (comb 1 L N) N
    obtain ⟨_, _, i1, _⟩ := id B40.a1.ob
    obtain ⟨_, _, i2, _⟩ := id B40.a2.ob
    -- first + second - second
    refine ⟨_, rfl, .inl ⟨rfl, _, sql_of R40.at_⟩, _, rfl, _, rfl, x1, _, _, x2, _, _, rfl, rfl, i1, i2, x1, x2, canon L, canon N, rfl, B40.a1, B40.a2, by omega, fun r0 H0 _ s0 hc0 => ?_⟩
    rw [mk_add] at hc0
    have cm := canon_len (comb 1 L N)
    obtain ⟨_, _, i0, _⟩ := id hc0.ob
    refine ⟨_, rfl, r0, _, _, x2, _, _, rfl, rfl, i0, s0 _ _ i2, r0, x2, canon (comb 1 L N), canon N, rfl, hc0, (B40.keep s0).a2, by omega, fun r Ha _ sa hc => ⟨_, rfl, two, fun t nt => ?_⟩⟩
    rw [mk_sub] at hc
    have st := same_upd (o := .tup [V.ref r, V.ref bk]) nt
    have S := (s0.trans (sa.trans st))
    have Bn := B40.keep S
    have Rn := R40.keep S
    have row := Row.mk' (cs := cs) upd_same (hc.keep st) (hbk.keep S) (by omega) kB
    refine ⟨rl, _, _, rfl, rfl, Rn.at_, Rn.lt (by decide), ?_⟩
    have R30 := Rn.push row
    have B30 := Bn.kp (Kp.upd (o := .lst (xs7 ++ [V.ref t]))) Rn.at_ hn
    clear row
    have hbk := (hbk.keep S).kp (Kp.upd (o := .lst (xs7 ++ [V.ref t]))) Rn.at_
    clear Bn Rn S
    revert R30 B30 hbk
    generalize upd (upd Ha t (.tup [V.ref r, V.ref bk])) rl (.lst (xs7 ++ [V.ref t])) = H30
    generalize xs7 ++ [V.ref t] = xs8
    intro R30 B30 hbk
    obtain ⟨_, _, i1, _⟩ := id B30.a1.ob
    obtain ⟨_, _, i2, _⟩ := id B30.a2.ob
    -- first
    refine ⟨_, rfl, .inl ⟨rfl, _, sql_of R30.at_⟩, _, rfl, _, rfl, two, fun t nt => ?_⟩
    have st := same_upd (o := .tup [V.ref x1, V.ref d1]) nt
    have S := st
    have Bn := B30.keep S
    have Rn := R30.keep S
    have row := Row.mk' (cs := cs) upd_same Bn.a1 Bn.e1 (by omega) kL
    refine ⟨rl, _, _, rfl, rfl, Rn.at_, Rn.lt (by decide), ?_⟩
    have R31 := Rn.push row
    have B31 := Bn.kp (Kp.upd (o := .lst (xs8 ++ [V.ref t]))) Rn.at_ hn
    clear row
    have hbk := (hbk.keep S).kp (Kp.upd (o := .lst (xs8 ++ [V.ref t]))) Rn.at_
    clear Bn Rn S
    revert R31 B31 hbk
    generalize upd (upd H30 t (.tup [V.ref x1, V.ref d1])) rl (.lst (xs8 ++ [V.ref t])) = H31
    generalize xs8 ++ [V.ref t] = xs9
    intro R31 B31 hbk
    obtain ⟨_, _, i1, _⟩ := id B31.a1.ob
    obtain ⟨_, _, i2, _⟩ := id B31.a2.ob
    -- second
    refine ⟨_, rfl, .inl ⟨rfl, _, sql_of R31.at_⟩, _, rfl, _, rfl, two, fun t nt => ?_⟩
    have st := same_upd (o := .tup [V.ref x2, V.ref d2]) nt
    have S := st
    have Bn := B31.keep S
    have Rn := R31.keep S
    have row := Row.mk' (cs := cs) upd_same Bn.a2 Bn.e2 (by omega) kN
    refine ⟨rl, _, _, rfl, rfl, Rn.at_, Rn.lt (by decide), ?_⟩
    have R32 := Rn.push row
    have B32 := Bn.kp (Kp.upd (o := .lst (xs9 ++ [V.ref t]))) Rn.at_ hn
    clear row
    have hbk := (hbk.keep S).kp (Kp.upd (o := .lst (xs9 ++ [V.ref t]))) Rn.at_
    clear Bn Rn S
    revert R32 B32 hbk
    generalize upd (upd H31 t (.tup [V.ref x2, V.ref d2])) rl (.lst (xs9 ++ [V.ref t])) = H32
    generalize xs9 ++ [V.ref t] = xs10
    intro R32 B32 hbk
    obtain ⟨_, _, i1, _⟩ := id B32.a1.ob
    obtain ⟨_, _, i2, _⟩ := id B32.a2.ob
    have hok := sg_ok hal
    -- every row fits
    refine ⟨_, rfl, rl, rfl, ⟨_, sql_of R32.at_⟩, for_list (K := K) (a := rl) (xs := xs10) (fun i σ H' => ∃ x, σ = [some (.ref a), some (.ref so), some (.int m), some (.ref sl), some (.ref d1), some (.ref d2), some (.int tm), some (.ref tl), some (.ref p3), some (.ref x1), some (.ref x2), some (.ref rl), some (.ref bk), x, none, none] ∧ Same H32 H') ⟨none, rfl, fun _ _ e => e⟩ (fun i σ H' _ ⟨_, _, z⟩ => sql_of (z _ _ R32.at_)) ?_ ?_⟩
    · rintro i y σ H' hi ⟨x, rfl, sm⟩
      obtain ⟨t, p, d, M, rfl, ht, hc, hd, hl, hk⟩ := (R32.keep sm).rows y (List.mem_of_getElem? hi)
      refine ⟨_, rfl, t, _, 0, _, rfl, rfl, .inl (.inl ht), rfl, _, rfl, t, _, 1, _, rfl, rfl, .inl (.inl ht), rfl, _, rfl, _, rfl, p, d, sl, tl, M, cs, tz, rfl, hc, hd, fun c h => hok c (hk c h), (B32.keep sm).sl, (B32.keep sm).tl, htsx, fun H'' s2 => ⟨true, rfl, ?_⟩⟩
      refine iteF' rfl ?_
      exact ⟨_, rfl, sm.trans s2⟩
    rintro σ H33 ⟨x, rfl, sm⟩
    have B33 := B32.keep sm
    have R33 := R32.keep sm
    have b33 := hbk.keep sm
    clear B32 R32 hbk sm
    -- the first four
    refine ⟨_, rfl, 4, rfl, rl, xs10, rfl, sql_of R33.at_, fun q nq => ?_⟩
    have s34 := same_upd (o := .lst (cutV xs10 none (some 4))) nq
    have hq : (upd H33 q (.lst (cutV xs10 none (some 4)))) q = some (.lst (cutV xs10 none (some 4))) := upd_same
    have hcut : ∀ y ∈ cutV xs10 none (some 4), y ∈ xs10 := fun y hy => by
      unfold cutV at hy
      exact List.mem_of_mem_drop (List.mem_of_mem_take hy)
    have B34 := B33.keep s34
    have R34 := R33.keep s34
    have b34 := b33.keep s34
    obtain ⟨_, _, _, hs34, _⟩ := id B34.sr
    have nqs : q ≠ so := by
      obtain ⟨_, _, _, z, _⟩ := id B33.sr
      exact (ne_of_none z nq).symm
    generalize (upd H33 q (.lst (cutV xs10 none (some 4)))) = H34 at hq B34 R34 b34 hs34
    generalize cutV xs10 none (some 4) = ys at hq hcut
    refine ⟨q, rfl, ⟨_, sql_of hq⟩, for_list (K := K) (a := q) (xs := ys) (fun i σ H' => ∃ x, σ = [some (.ref a), some (.ref so), some (.int m), some (.ref sl), some (.ref d1), some (.ref d2), some (.int tm), some (.ref tl), some (.ref p3), some (.ref x1), some (.ref x2), some (.ref rl), some (.ref bk), x, none, none] ∧ Kp so H34 H' ∧ Src H' so c) ⟨x, rfl, Kp.refl, B34.sr⟩ (fun i σ H' _ ⟨_, _, z, _⟩ => sql_of (z _ _ hq nqs)) ?_ ?_⟩
    · rintro i y σ H' hi ⟨x, rfl, kp, sr⟩
      obtain ⟨t, p, d, M, rfl, ht, hc, hd, hl, hk⟩ := (R34.rows y (hcut y (List.mem_of_getElem? hi))).kp kp hs34
      refine ⟨_, rfl, _, rfl, t, _, 0, _, rfl, rfl, .inl (.inl ht), rfl, _, rfl, t, _, 1, _, rfl, rfl, .inl (.inl ht), rfl, _, rfl, so, c, p, d, sl, M, cs, rfl, sr, hc, hd, hl, nss, kp _ _ B34.sl nss, by omega, by omega, fun H'' kp2 sr2 => ⟨true, rfl, ?_⟩⟩
      refine iteF' rfl ?_
      exact ⟨_, rfl, kp.trans kp2, sr2⟩
    rintro σ H35 ⟨x, rfl, kp, sr35⟩
    have B35 : Bs C so c sl tl x1 x2 d1 d2 cs tz L N H35 := ⟨sr35, kp _ _ B34.sl nss, kp _ _ B34.tl tls, B34.a1.kp kp hs34, B34.a2.kp kp hs34, B34.e1.kp kp hs34, B34.e2.kp kp hs34⟩
    have b35 := b34.kp kp hs34
    clear B34 R34 b34 B33 R33 b33 kp
    -- what is no catalog
    have e35 := B35.e1.dk
    refine ⟨_, rfl, d1, _, rfl, .inl e35, fun q1 nq1 => ?_⟩
    have s36 := same_upd (o := .dK (LD L)) nq1
    have h1 : (upd H35 q1 (.dK (LD L))) q1 = some (.dK (LD L)) := upd_same
    have B36 := B35.keep s36
    have b36 := b35.keep s36
    generalize (upd H35 q1 (.dK (LD L))) = H36 at h1 B36 b36
    refine ⟨_, rfl, d1, _, rfl, B36.e1.dk, fun q2 nq2 => ?_⟩
    have s37 := same_upd (o := .lst ((LD L).map fun kv => kV kv.1)) nq2
    have h2 : (upd H36 q2 (.lst ((LD L).map fun kv => kV kv.1))) q2 = some (.lst ((LD L).map fun kv => kV kv.1)) := upd_same
    have B37 := B36.keep s37
    have b37 := b36.keep s37
    have h17 := s37 _ _ h1
    generalize (upd H36 q2 (.lst ((LD L).map fun kv => kV kv.1))) = H37 at h2 B37 b37 h17
    obtain ⟨_, _, i1, _⟩ := id B37.a1.ob
    refine ⟨_, rfl, x1, _, _, rfl, i1, x1, _, _, _, rfl, i1, flds_lt _ _, _, rfl, d1, _, rfl, B37.e1.dk, (by show 5 ≤ sizeLine; decide), fun q3 nq3 => ?_⟩
    have s38 := same_upd (o := .lst [V.ref q1, V.ref q2, V.str (tx ((canon L).map (·.1))), V.int ((LD L).length : Int), V.non]) nq3
    have h3 : (upd H37 q3 (.lst [V.ref q1, V.ref q2, V.str (tx ((canon L).map (·.1))), V.int ((LD L).length : Int), V.non])) q3 = some (.lst [V.ref q1, V.ref q2, V.str (tx ((canon L).map (·.1))), V.int ((LD L).length : Int), V.non]) := upd_same
    have B38 := B37.keep s38
    have b38 := b37.keep s38
    have h18 := s38 _ _ h17
    have h28 := s38 _ _ h2
    generalize (upd H37 q3 (.lst [V.ref q1, V.ref q2, V.str (tx ((canon L).map (·.1))), V.int ((LD L).length : Int), V.non])) = H38 at h3 B38 b38 h18 h28
    have ys : ∀ y ∈ [V.ref q1, V.ref q2, V.str (tx ((canon L).map (·.1))), V.int ((LD L).length : Int), V.non], ∃ Ty, TyB H38 y Ty ∧ (Ty = "dict" ∨ Ty = "list" ∨ Ty = "str" ∨ Ty = "int" ∨ Ty = "NoneType") := fun y hy => by
      rcases List.mem_cons.mp hy with z | hy
      · subst z
        exact ⟨_, .dK h18, .inl rfl⟩
      rcases List.mem_cons.mp hy with z | hy
      · subst z
        exact ⟨_, .lst h28, .inr (.inl rfl)⟩
      rcases List.mem_cons.mp hy with z | hy
      · subst z
        exact ⟨_, .str _, .inr (.inr (.inl rfl))⟩
      rcases List.mem_cons.mp hy with z | hy
      · subst z
        exact ⟨_, .int _, .inr (.inr (.inr (.inl rfl)))⟩
      · rw [List.mem_singleton.mp hy]
        exact ⟨_, .non, .inr (.inr (.inr (.inr rfl)))⟩
    obtain ⟨_, _, i1, _⟩ := id B38.a1.ob
    obtain ⟨_, _, i2, _⟩ := id B38.a2.ob
    refine ⟨q3, rfl, ⟨_, sql_of h3⟩, for_list (K := K) (a := q3) (xs := [V.ref q1, V.ref q2, V.str (tx ((canon L).map (·.1))), V.int ((LD L).length : Int), V.non]) (fun i σ H' => ∃ x', σ = [some (.ref a), some (.ref so), some (.int m), some (.ref sl), some (.ref d1), some (.ref d2), some (.int tm), some (.ref tl), some (.ref p3), some (.ref x1), some (.ref x2), some (.ref rl), some (.ref bk), x, x', none] ∧ H' = H38) ⟨none, rfl, rfl⟩ (fun i σ H' _ ⟨_, _, z⟩ => sql_of (by rw [z]; exact h3)) ?_ ?_⟩
    · rintro i y σ H' hi ⟨x', rfl, rfl⟩
      obtain ⟨Ty, ty, kk⟩ := ys y (List.mem_of_getElem? hi)
      obtain ⟨k1, k2, k3⟩ := T.kB Ty kk
      refine ⟨_, rfl, _, rfl, x1, _, _, rfl, i1, .inr ⟨Ty, ty, k2⟩, x1, canon L, y, rfl, B38.a1, .inr ⟨Ty, ty, k1, false, false, rfl, rfl, _, rfl, ?_⟩⟩
      refine iteF' rfl ?_
      refine ⟨_, rfl, _, rfl, x1, _, _, Ty, rfl, i1, ty, k3, x1, canon L, y, rfl, B38.a1, .inr ⟨Ty, ty, k1, false, false, rfl, rfl, _, rfl, ?_⟩⟩
      refine iteF' rfl ?_
      exact ⟨_, rfl, rfl⟩
    rintro σ H' ⟨x', rfl, rfl⟩
    refine ⟨_, rfl, _, rfl, x1, _, _, x2, _, _, rfl, rfl, i1, i2, x1, x2, canon L, canon N, rfl, B38.a1, B38.a2, by omega, fun r0 H0 _ s0 hc0 => ?_⟩
    rw [mk_add] at hc0
    have cm := canon_len (comb 1 L N)
    obtain ⟨_, _, i0, _⟩ := id hc0.ob
    refine ⟨_, rfl, r0, _, _, x2, _, _, rfl, rfl, i0, s0 _ _ i2, r0, x2, canon (comb 1 L N), canon N, rfl, hc0, (B38.keep s0).a2, by omega, fun r Ha _ sa hc => ?_⟩
    rw [mk_sub] at hc
    exact ⟨_, rfl, _, rfl, r, bk, d1, comb (-1) (comb 1 L N) N, L, rfl, hc, (b38.keep s0).keep sa, (B38.e1.keep s0).keep sa, fun H'' _ => k H''⟩
end
end DO

namespace DO
open PySem PySem.Spec PyProof.Rows L2
theorem kit_self {K : PySem.W.Frag} {C : Addr} : PySem.W.kitOne K (.ref C) (.ref C) = some true := by simp [PySem.W.kitOne]
theorem kit_own {K : PySem.W.Frag} {C : Addr} {t : String} (h : PySem.W.isClsIn K C = true) (h2 : PySem.W.typeIn K (.ref C) = some (.type "type")) (h3 : PySem.W.subIn K (.type t) (.ref C) = some false) : PySem.W.kitOne K (.type t) (.ref C) = some false := by
  have hne : (Value.type t == Value.ref C) = false := Bool.eq_false_iff.mpr fun q => by cases beq_iff_eq.mp q
  have h1 : (PySem.W.clsIn K C).isSome = true := h
  unfold PySem.W.kitOne PySem.W.kitCls
  rw [hne]
  show (if ((PySem.W.clsIn K C).isSome && PySem.W.typeIn K (.ref C) == some (.type "type")) = true then PySem.W.subIn K (.type t) (.ref C) else none) = some false
  rw [h1, h2]
  simpa using h3
set_option maxHeartbeats 0 in
theorem all_mk {l : PySem.W.OpenLaw} {w : World} {K : PySem.W.Frag} {h : Heap} {mg : Str → Option Value} {fa C pP f1 f5 f6 f7 f8 f9 f10 f11 f12 f13 f14 f15 f16 f17 f18 f19 fmI fmG fmH fmT fmN fmA fmS fmM fmR fmE fP : Addr} {reP : List Value} (X : K.In h) (G : h.Ns mainGlobals mg) (hfa : mg "law" = some (.ref fa))
    {od1 an1 : Option Addr} {sl1 : Array (Option Value)} {oc1 kV1 dc1 pm1 cd1 ct1 : Value} {od5 an5 : Option Addr} {sl5 : Array (Option Value)} {oc5 kV5 dc5 pm5 cd5 ct5 : Value} {od6 an6 : Option Addr} {sl6 : Array (Option Value)} {oc6 kV6 dc6 pm6 cd6 ct6 : Value} {od7 an7 : Option Addr} {sl7 : Array (Option Value)} {oc7 kV7 dc7 pm7 cd7 ct7 : Value} {od8 an8 : Option Addr} {sl8 : Array (Option Value)} {oc8 kV8 dc8 pm8 cd8 ct8 : Value} {od9 an9 : Option Addr} {sl9 : Array (Option Value)} {oc9 kV9 dc9 pm9 cd9 ct9 : Value} {od10 an10 : Option Addr} {sl10 : Array (Option Value)} {oc10 kV10 dc10 pm10 cd10 ct10 : Value} {od11 an11 : Option Addr} {sl11 : Array (Option Value)} {oc11 kV11 dc11 pm11 cd11 ct11 : Value} {od12 an12 : Option Addr} {sl12 : Array (Option Value)} {oc12 kV12 dc12 pm12 cd12 ct12 : Value} {od13 an13 : Option Addr} {sl13 : Array (Option Value)} {oc13 kV13 dc13 pm13 cd13 ct13 : Value} {od14 an14 : Option Addr} {sl14 : Array (Option Value)} {oc14 kV14 dc14 pm14 cd14 ct14 : Value} {od15 an15 : Option Addr} {sl15 : Array (Option Value)} {oc15 kV15 dc15 pm15 cd15 ct15 : Value} {od16 an16 : Option Addr} {sl16 : Array (Option Value)} {oc16 kV16 dc16 pm16 cd16 ct16 : Value} {od17 an17 : Option Addr} {sl17 : Array (Option Value)} {oc17 kV17 dc17 pm17 cd17 ct17 : Value} {od18 an18 : Option Addr} {sl18 : Array (Option Value)} {oc18 kV18 dc18 pm18 cd18 ct18 : Value} {od19 an19 : Option Addr} {sl19 : Array (Option Value)} {oc19 kV19 dc19 pm19 cd19 ct19 : Value} {odmI anmI : Option Addr} {slmI : Array (Option Value)} {ocmI kVmI dcmI pmmI cdmI ctmI : Value} {odmG anmG : Option Addr} {slmG : Array (Option Value)} {ocmG kVmG dcmG pmmG cdmG ctmG : Value} {odmH anmH : Option Addr} {slmH : Array (Option Value)} {ocmH kVmH dcmH pmmH cdmH ctmH : Value} {odmT anmT : Option Addr} {slmT : Array (Option Value)} {ocmT kVmT dcmT pmmT cdmT ctmT : Value} {odmN anmN : Option Addr} {slmN : Array (Option Value)} {ocmN kVmN dcmN pmmN cdmN ctmN : Value} {odmA anmA : Option Addr} {slmA : Array (Option Value)} {ocmA kVmA dcmA pmmA cdmA ctmA : Value} {odmS anmS : Option Addr} {slmS : Array (Option Value)} {ocmS kVmS dcmS pmmS cdmS ctmS : Value} {odmM anmM : Option Addr} {slmM : Array (Option Value)} {ocmM kVmM dcmM pmmM cdmM ctmM : Value} {odmR anmR : Option Addr} {slmR : Array (Option Value)} {ocmR kVmR dcmR pmmR cdmR ctmR : Value} {odmE anmE : Option Addr} {slmE : Array (Option Value)} {ocmE kVmE dcmE pmmE cdmE ctmE : Value} {odP anP : Option Addr} {slP : Array (Option Value)} {ocP kVP dcP pmP cdP ctP : Value}
    (a1 : PySem.W.nsIn K mainGlobals "ascending_signs" = some (some (.ref f1))) (l1 : K.lookup f1 = some ⟨oc1, od1, .func (PySem.W.fnOf "ascending_signs" "ascending_signs" (defArgs sAsc) (defBody sAsc) (defScope sAsc) .none kV1 dc1 pm1 an1 cd1 ct1), sl1⟩) (c1 : PySem.W.codeIn K cd1 "ascending_signs" = true) (k1 : PySem.W.keepIn K (.ref f1) = true)
    (a5 : PySem.W.nsIn K mainGlobals "_law_mixed" = some (some (.ref f5))) (l5 : K.lookup f5 = some ⟨oc5, od5, .func (PySem.W.fnOf "_law_mixed" "_law_mixed" (defArgs sMixed) (defBody sMixed) (defScope sMixed) .none kV5 dc5 pm5 an5 cd5 ct5), sl5⟩) (c5 : PySem.W.codeIn K cd5 "_law_mixed" = true) (k5 : PySem.W.keepIn K (.ref f5) = true)
    (a6 : PySem.W.nsIn K mainGlobals "_law_source" = some (some (.ref f6))) (l6 : K.lookup f6 = some ⟨oc6, od6, .func (PySem.W.fnOf "_law_source" "_law_source" (defArgs sSource) (defBody sSource) (defScope sSource) .none kV6 dc6 pm6 an6 cd6 ct6), sl6⟩) (c6 : PySem.W.codeIn K cd6 "_law_source" = true) (k6 : PySem.W.keepIn K (.ref f6) = true)
    (a7 : PySem.W.nsIn K mainGlobals "_law_take" = some (some (.ref f7))) (l7 : K.lookup f7 = some ⟨oc7, od7, .func (PySem.W.fnOf "_law_take" "_law_take" (defArgs sTake) (defBody sTake) (defScope sTake) .none kV7 dc7 pm7 an7 cd7 ct7), sl7⟩) (c7 : PySem.W.codeIn K cd7 "_law_take" = true) (k7 : PySem.W.keepIn K (.ref f7) = true)
    (a8 : PySem.W.nsIn K mainGlobals "_law_signs" = some (some (.ref f8))) (l8 : K.lookup f8 = some ⟨oc8, od8, .func (PySem.W.fnOf "_law_signs" "_law_signs" (defArgs sSigns) (defBody sSigns) (defScope sSigns) .none kV8 dc8 pm8 an8 cd8 ct8), sl8⟩) (c8 : PySem.W.codeIn K cd8 "_law_signs" = true) (k8 : PySem.W.keepIn K (.ref f8) = true)
    (a9 : PySem.W.nsIn K mainGlobals "_law_text" = some (some (.ref f9))) (l9 : K.lookup f9 = some ⟨oc9, od9, .func (PySem.W.fnOf "_law_text" "_law_text" (defArgs sText) (defBody sText) (defScope sText) .none kV9 dc9 pm9 an9 cd9 ct9), sl9⟩) (c9 : PySem.W.codeIn K cd9 "_law_text" = true) (k9 : PySem.W.keepIn K (.ref f9) = true)
    (a10 : PySem.W.nsIn K mainGlobals "_law_number" = some (some (.ref f10))) (l10 : K.lookup f10 = some ⟨oc10, od10, .func (PySem.W.fnOf "_law_number" "_law_number" (defArgs sNumber) (defBody sNumber) (defScope sNumber) .none kV10 dc10 pm10 an10 cd10 ct10), sl10⟩) (c10 : PySem.W.codeIn K cd10 "_law_number" = true) (k10 : PySem.W.keepIn K (.ref f10) = true)
    (a11 : PySem.W.nsIn K mainGlobals "_law_lengths" = some (some (.ref f11))) (l11 : K.lookup f11 = some ⟨oc11, od11, .func (PySem.W.fnOf "_law_lengths" "_law_lengths" (defArgs sLengths) (defBody sLengths) (defScope sLengths) .none kV11 dc11 pm11 an11 cd11 ct11), sl11⟩) (c11 : PySem.W.codeIn K cd11 "_law_lengths" = true) (k11 : PySem.W.keepIn K (.ref f11) = true)
    (a12 : PySem.W.nsIn K mainGlobals "_law_turned" = some (some (.ref f12))) (l12 : K.lookup f12 = some ⟨oc12, od12, .func (PySem.W.fnOf "_law_turned" "_law_turned" (defArgs sTurned) (defBody sTurned) (defScope sTurned) .none kV12 dc12 pm12 an12 cd12 ct12), sl12⟩) (c12 : PySem.W.codeIn K cd12 "_law_turned" = true) (k12 : PySem.W.keepIn K (.ref f12) = true)
    (a13 : PySem.W.nsIn K mainGlobals "_law_is_integer" = some (some (.ref f13))) (l13 : K.lookup f13 = some ⟨oc13, od13, .func (PySem.W.fnOf "_law_is_integer" "_law_is_integer" (defArgs sIsI) (defBody sIsI) (defScope sIsI) .none kV13 dc13 pm13 an13 cd13 ct13), sl13⟩) (c13 : PySem.W.codeIn K cd13 "_law_is_integer" = true) (k13 : PySem.W.keepIn K (.ref f13) = true)
    (a14 : PySem.W.nsIn K mainGlobals "_law_fits" = some (some (.ref f14))) (l14 : K.lookup f14 = some ⟨oc14, od14, .func (PySem.W.fnOf "_law_fits" "_law_fits" (defArgs sFits) (defBody sFits) (defScope sFits) .none kV14 dc14 pm14 an14 cd14 ct14), sl14⟩) (c14 : PySem.W.codeIn K cd14 "_law_fits" = true) (k14 : PySem.W.keepIn K (.ref f14) = true)
    (a15 : PySem.W.nsIn K mainGlobals "_law_combined" = some (some (.ref f15))) (l15 : K.lookup f15 = some ⟨oc15, od15, .func (PySem.W.fnOf "_law_combined" "_law_combined" (defArgs sCombined) (defBody sCombined) (defScope sCombined) .none kV15 dc15 pm15 an15 cd15 ct15), sl15⟩) (c15 : PySem.W.codeIn K cd15 "_law_combined" = true) (k15 : PySem.W.keepIn K (.ref f15) = true)
    (a16 : PySem.W.nsIn K mainGlobals "_law_scaled" = some (some (.ref f16))) (l16 : K.lookup f16 = some ⟨oc16, od16, .func (PySem.W.fnOf "_law_scaled" "_law_scaled" (defArgs sScaled) (defBody sScaled) (defScope sScaled) .none kV16 dc16 pm16 an16 cd16 ct16), sl16⟩) (c16 : PySem.W.codeIn K cd16 "_law_scaled" = true) (k16 : PySem.W.keepIn K (.ref f16) = true)
    (a17 : PySem.W.nsIn K mainGlobals "_law_equal_right" = some (some (.ref f17))) (l17 : K.lookup f17 = some ⟨oc17, od17, .func (PySem.W.fnOf "_law_equal_right" "_law_equal_right" (defArgs sEqR) (defBody sEqR) (defScope sEqR) .none kV17 dc17 pm17 an17 cd17 ct17), sl17⟩) (c17 : PySem.W.codeIn K cd17 "_law_equal_right" = true) (k17 : PySem.W.keepIn K (.ref f17) = true)
    (a18 : PySem.W.nsIn K mainGlobals "_law_equals_right" = some (some (.ref f18))) (l18 : K.lookup f18 = some ⟨oc18, od18, .func (PySem.W.fnOf "_law_equals_right" "_law_equals_right" (defArgs sEqs) (defBody sEqs) (defScope sEqs) .none kV18 dc18 pm18 an18 cd18 ct18), sl18⟩) (c18 : PySem.W.codeIn K cd18 "_law_equals_right" = true) (k18 : PySem.W.keepIn K (.ref f18) = true)
    (a19 : PySem.W.nsIn K mainGlobals "law" = some (some (.ref f19))) (l19 : K.lookup f19 = some ⟨oc19, od19, .func (PySem.W.fnOf "law" "law" (defArgs sLaw) (defBody sLaw) (defScope sLaw) .none kV19 dc19 pm19 an19 cd19 ct19), sl19⟩) (c19 : PySem.W.codeIn K cd19 "law" = true) (k19 : PySem.W.keepIn K (.ref f19) = true)
    (amI : PySem.W.findIn K (.ref C) "__init__" = some (some (.ref fmI))) (imI : PySem.W.isFn K (.ref fmI) = true) (lmI : K.lookup fmI = some ⟨ocmI, odmI, .func (PySem.W.fnOf "__init__" "Catalog.__init__" (defArgs sIni) (defBody sIni) (defScope sIni) .none kVmI dcmI pmmI anmI cdmI ctmI), slmI⟩) (cmI : PySem.W.codeIn K cdmI "Catalog.__init__" = true) (kmI : PySem.W.keepIn K (.ref fmI) = true)
    (amG : PySem.W.findIn K (.ref C) "__getitem__" = some (some (.ref fmG))) (imG : PySem.W.isFn K (.ref fmG) = true) (lmG : K.lookup fmG = some ⟨ocmG, odmG, .func (PySem.W.fnOf "__getitem__" "Catalog.__getitem__" (defArgs sGet) (defBody sGet) (defScope sGet) .none kVmG dcmG pmmG anmG cdmG ctmG), slmG⟩) (cmG : PySem.W.codeIn K cdmG "Catalog.__getitem__" = true) (kmG : PySem.W.keepIn K (.ref fmG) = true)
    (amH : PySem.W.findIn K (.ref C) "__contains__" = some (some (.ref fmH))) (imH : PySem.W.isFn K (.ref fmH) = true) (lmH : K.lookup fmH = some ⟨ocmH, odmH, .func (PySem.W.fnOf "__contains__" "Catalog.__contains__" (defArgs sHas) (defBody sHas) (defScope sHas) .none kVmH dcmH pmmH anmH cdmH ctmH), slmH⟩) (cmH : PySem.W.codeIn K cdmH "Catalog.__contains__" = true) (kmH : PySem.W.keepIn K (.ref fmH) = true)
    (amT : PySem.W.findIn K (.ref C) "__iter__" = some (some (.ref fmT))) (imT : PySem.W.isFn K (.ref fmT) = true) (lmT : K.lookup fmT = some ⟨ocmT, odmT, .func (PySem.W.fnOf "__iter__" "Catalog.__iter__" (defArgs sItr) (defBody sItr) (defScope sItr) .none kVmT dcmT pmmT anmT cdmT ctmT), slmT⟩) (cmT : PySem.W.codeIn K cdmT "Catalog.__iter__" = true) (kmT : PySem.W.keepIn K (.ref fmT) = true)
    (amN : PySem.W.findIn K (.ref C) "length" = some (some (.ref fmN))) (imN : PySem.W.isFn K (.ref fmN) = true) (lmN : K.lookup fmN = some ⟨ocmN, odmN, .func (PySem.W.fnOf "length" "Catalog.length" (defArgs sLen) (defBody sLen) (defScope sLen) .none kVmN dcmN pmmN anmN cdmN ctmN), slmN⟩) (cmN : PySem.W.codeIn K cdmN "Catalog.length" = true) (kmN : PySem.W.keepIn K (.ref fmN) = true)
    (amA : PySem.W.findIn K (.ref C) "__add__" = some (some (.ref fmA))) (imA : PySem.W.isFn K (.ref fmA) = true) (lmA : K.lookup fmA = some ⟨ocmA, odmA, .func (PySem.W.fnOf "__add__" "Catalog.__add__" (defArgs sAdd) (defBody sAdd) (defScope sAdd) .none kVmA dcmA pmmA anmA cdmA ctmA), slmA⟩) (cmA : PySem.W.codeIn K cdmA "Catalog.__add__" = true) (kmA : PySem.W.keepIn K (.ref fmA) = true)
    (amS : PySem.W.findIn K (.ref C) "__sub__" = some (some (.ref fmS))) (imS : PySem.W.isFn K (.ref fmS) = true) (lmS : K.lookup fmS = some ⟨ocmS, odmS, .func (PySem.W.fnOf "__sub__" "Catalog.__sub__" (defArgs sSub) (defBody sSub) (defScope sSub) .none kVmS dcmS pmmS anmS cdmS ctmS), slmS⟩) (cmS : PySem.W.codeIn K cdmS "Catalog.__sub__" = true) (kmS : PySem.W.keepIn K (.ref fmS) = true)
    (amM : PySem.W.findIn K (.ref C) "__mul__" = some (some (.ref fmM))) (imM : PySem.W.isFn K (.ref fmM) = true) (lmM : K.lookup fmM = some ⟨ocmM, odmM, .func (PySem.W.fnOf "__mul__" "Catalog.__mul__" (defArgs sMul) (defBody sMul) (defScope sMul) .none kVmM dcmM pmmM anmM cdmM ctmM), slmM⟩) (cmM : PySem.W.codeIn K cdmM "Catalog.__mul__" = true) (kmM : PySem.W.keepIn K (.ref fmM) = true)
    (amR : PySem.W.findIn K (.ref C) "__rmul__" = some (some (.ref fmR))) (imR : PySem.W.isFn K (.ref fmR) = true) (lmR : K.lookup fmR = some ⟨ocmR, odmR, .func (PySem.W.fnOf "__rmul__" "Catalog.__rmul__" (defArgs sRmu) (defBody sRmu) (defScope sRmu) .none kVmR dcmR pmmR anmR cdmR ctmR), slmR⟩) (cmR : PySem.W.codeIn K cdmR "Catalog.__rmul__" = true) (kmR : PySem.W.keepIn K (.ref fmR) = true)
    (amE : PySem.W.findIn K (.ref C) "__eq__" = some (some (.ref fmE))) (imE : PySem.W.isFn K (.ref fmE) = true) (lmE : K.lookup fmE = some ⟨ocmE, odmE, .func (PySem.W.fnOf "__eq__" "Catalog.__eq__" (defArgs sEq) (defBody sEq) (defScope sEq) .none kVmE dcmE pmmE anmE cdmE ctmE), slmE⟩) (cmE : PySem.W.codeIn K cdmE "Catalog.__eq__" = true) (kmE : PySem.W.keepIn K (.ref fmE) = true)
    (aP : PySem.W.findIn K (.ref C) "letters" = some (some (.ref pP))) (gP : PySem.W.specialIn K (.ref pP) "__get__" = some (some (.builtin "property.__get__"))) (tP : PySem.W.takesIn K (.ref pP) = some true) (rP : PySem.W.recIn K pP "property" = some (.ref fP :: reP)) (lP : K.lookup fP = some ⟨ocP, odP, .func (PySem.W.fnOf "letters" "Catalog.letters" (defArgs sLet) (defBody sLet) (defScope sLet) .none kVP dcP pmP anP cdP ctP), slP⟩) (cP : PySem.W.codeIn K cdP "Catalog.letters" = true) (kP : PySem.W.keepIn K (.ref fP) = true)
    (aC : PySem.W.nsIn K mainGlobals "Catalog" = some (some (.ref C)))
    (pg : PySem.W.plainGet K C Str.empty = true)
    (hd : PySem.W.hasDictIn K C = true)
    (po : PySem.W.plainOver K C = true)
    (sa : PySem.W.findIn K (.ref C) "__setattr__" = some (some (.builtin "object.__setattr__")))
    (mk : PySem.W.makesIn K C = true)
    (kc : PySem.W.keepIn K (.ref C) = true)
    (nT : PySem.W.findIn K (.ref C) "_letters" = some none)
    (nL : PySem.W.findIn K (.ref C) "_lengths" = some none)
    (sf : PySem.W.selfFirst K C = true)
    (ha : PySem.W.findIn K (.ref C) "__class__" = some (some (.builtin "object.__class__")))
    (hn : PySem.W.specialIn K (.builtin "object.__class__") "__get__" = some (some (.builtin "getset_descriptor.__get__")))
    (ht : PySem.W.takesIn K (.builtin "object.__class__") = some true)
    (hm : PySem.W.mroIn K C (.type "object") = some true)
    (ic : PySem.W.isClsIn K C = true)
    (ty : PySem.W.typeIn K (.ref C) = some (.type "type"))
    (sI : PySem.W.subIn K (.type "int") (.ref C) = some false)
    (im : PySem.W.findIn K (.type "int") "__mul__" = some (some (.builtin "int.__mul__")))
    (ir : PySem.W.findIn K (.type "int") "__rmul__" = some (some (.builtin "int.__rmul__")))
    (nl : PySem.W.findIn K (.ref C) "__len__" = some none)
    (nh : PySem.W.findIn K (.ref C) "__length_hint__" = some none)
    (b1dict : PySem.W.subIn K (.type "dict") (.ref C) = some false)
    (b2dict : PySem.W.notFirst K C (.type "dict") = true)
    (b3dict : PySem.W.subIn K (.ref C) (.type "dict") = some false)
    (b1list : PySem.W.subIn K (.type "list") (.ref C) = some false)
    (b2list : PySem.W.notFirst K C (.type "list") = true)
    (b3list : PySem.W.subIn K (.ref C) (.type "list") = some false)
    (b1str : PySem.W.subIn K (.type "str") (.ref C) = some false)
    (b2str : PySem.W.notFirst K C (.type "str") = true)
    (b3str : PySem.W.subIn K (.ref C) (.type "str") = some false)
    (b1int : PySem.W.subIn K (.type "int") (.ref C) = some false)
    (b2int : PySem.W.notFirst K C (.type "int") = true)
    (b3int : PySem.W.subIn K (.ref C) (.type "int") = some false)
    (b1NoneType : PySem.W.subIn K (.type "NoneType") (.ref C) = some false)
    (b2NoneType : PySem.W.notFirst K C (.type "NoneType") = true)
    (b3NoneType : PySem.W.subIn K (.ref C) (.type "NoneType") = some false)
    (zint : PySem.W.nsIn K mainGlobals "int" = some none)
    (zabs : PySem.W.nsIn K mainGlobals "abs" = some none)
    (zlen : PySem.W.nsIn K mainGlobals "len" = some none)
    (zlist : PySem.W.nsIn K mainGlobals "list" = some none)
    (zrange : PySem.W.nsIn K mainGlobals "range" = some none)
    (zsorted : PySem.W.nsIn K mainGlobals "sorted" = some none)
    (zstr : PySem.W.nsIn K mainGlobals "str" = some none)
    (zisinstance : PySem.W.nsIn K mainGlobals "isinstance" = some none)
    (zbool : PySem.W.nsIn K mainGlobals "bool" = some none)
    (zsum : PySem.W.nsIn K mainGlobals "sum" = some none)
    (zdict : PySem.W.nsIn K mainGlobals "dict" = some none)
    (ziter : PySem.W.nsIn K mainGlobals "iter" = some none) :
    ∃ fd : FuncData, (∀ (s : Shared) (v : Value), BindsTo s fd ⟨[v], []⟩ [("_law_script", v)]) ∧ ∀ base : Heap, K.In base → base.Ns mainGlobals mg → FnOk l.prog w K mg base CX0 6 fa fd ["_law_script"] (spLaw K) := by
  have F1 := fun_mk (st := sAsc) l1 c1 k1
  have D1 : Df K mg "ascending_signs" sAsc ["text"] := ⟨f1, _, PySem.W.mg_of X G a1, F1, (F1.binds (ps := ["text"]) fun _ _ _ _ _ _ us hl => match us, hl with | [_], _ => rfl)⟩
  have F5 := fun_mk (st := sMixed) l5 c5 k5
  have D5 : Df K mg "_law_mixed" sMixed ["_law_cell", "_law_place"] := ⟨f5, _, PySem.W.mg_of X G a5, F5, (F5.binds (ps := ["_law_cell", "_law_place"]) fun _ _ _ _ _ _ us hl => match us, hl with | [_, _], _ => rfl)⟩
  have F6 := fun_mk (st := sSource) l6 c6 k6
  have D6 : Df K mg "_law_source" sSource ["_law_script"] := ⟨f6, _, PySem.W.mg_of X G a6, F6, (F6.binds (ps := ["_law_script"]) fun _ _ _ _ _ _ us hl => match us, hl with | [_], _ => rfl)⟩
  have F7 := fun_mk (st := sTake) l7 c7 k7
  have D7 : Df K mg "_law_take" sTake ["_law_source_here", "_law_many"] := ⟨f7, _, PySem.W.mg_of X G a7, F7, (F7.binds (ps := ["_law_source_here", "_law_many"]) fun _ _ _ _ _ _ us hl => match us, hl with | [_, _], _ => rfl)⟩
  have F8 := fun_mk (st := sSigns) l8 c8 k8
  have D8 : Df K mg "_law_signs" sSigns ["_law_source_here", "_law_many"] := ⟨f8, _, PySem.W.mg_of X G a8, F8, (F8.binds (ps := ["_law_source_here", "_law_many"]) fun _ _ _ _ _ _ us hl => match us, hl with | [_, _], _ => rfl)⟩
  have F9 := fun_mk (st := sText) l9 c9 k9
  have D9 : Df K mg "_law_text" sText ["_law_source_here", "_law_signs_here", "_law_size"] := ⟨f9, _, PySem.W.mg_of X G a9, F9, (F9.binds (ps := ["_law_source_here", "_law_signs_here", "_law_size"]) fun _ _ _ _ _ _ us hl => match us, hl with | [_, _, _], _ => rfl)⟩
  have F10 := fun_mk (st := sNumber) l10 c10 k10
  have D10 : Df K mg "_law_number" sNumber ["_law_source_here"] := ⟨f10, _, PySem.W.mg_of X G a10, F10, (F10.binds (ps := ["_law_source_here"]) fun _ _ _ _ _ _ us hl => match us, hl with | [_], _ => rfl)⟩
  have F11 := fun_mk (st := sLengths) l11 c11 k11
  have D11 : Df K mg "_law_lengths" sLengths ["_law_source_here", "_law_signs_here"] := ⟨f11, _, PySem.W.mg_of X G a11, F11, (F11.binds (ps := ["_law_source_here", "_law_signs_here"]) fun _ _ _ _ _ _ us hl => match us, hl with | [_, _], _ => rfl)⟩
  have F12 := fun_mk (st := sTurned) l12 c12 k12
  have D12 : Df K mg "_law_turned" sTurned ["_law_lengths_here"] := ⟨f12, _, PySem.W.mg_of X G a12, F12, (F12.binds (ps := ["_law_lengths_here"]) fun _ _ _ _ _ _ us hl => match us, hl with | [_], _ => rfl)⟩
  have F13 := fun_mk (st := sIsI) l13 c13 k13
  have D13 : Df K mg "_law_is_integer" sIsI ["_law_value"] := ⟨f13, _, PySem.W.mg_of X G a13, F13, (F13.binds (ps := ["_law_value"]) fun _ _ _ _ _ _ us hl => match us, hl with | [_], _ => rfl)⟩
  have F14 := fun_mk (st := sFits) l14 c14 k14
  have D14 : Df K mg "_law_fits" sFits ["_law_catalog", "_law_lengths_here", "_law_signs_here", "_law_texts"] := ⟨f14, _, PySem.W.mg_of X G a14, F14, (F14.binds (ps := ["_law_catalog", "_law_lengths_here", "_law_signs_here", "_law_texts"]) fun _ _ _ _ _ _ us hl => match us, hl with | [_, _, _, _], _ => rfl)⟩
  have F15 := fun_mk (st := sCombined) l15 c15 k15
  have D15 : Df K mg "_law_combined" sCombined ["_law_one", "_law_two", "_law_factor"] := ⟨f15, _, PySem.W.mg_of X G a15, F15, (F15.binds (ps := ["_law_one", "_law_two", "_law_factor"]) fun _ _ _ _ _ _ us hl => match us, hl with | [_, _, _], _ => rfl)⟩
  have F16 := fun_mk (st := sScaled) l16 c16 k16
  have D16 : Df K mg "_law_scaled" sScaled ["_law_lengths_here", "_law_times"] := ⟨f16, _, PySem.W.mg_of X G a16, F16, (F16.binds (ps := ["_law_lengths_here", "_law_times"]) fun _ _ _ _ _ _ us hl => match us, hl with | [_, _], _ => rfl)⟩
  have F17 := fun_mk (st := sEqR) l17 c17 k17
  have D17 : Df K mg "_law_equal_right" sEqR ["_law_one", "_law_lengths_here", "_law_other"] := ⟨f17, _, PySem.W.mg_of X G a17, F17, (F17.binds (ps := ["_law_one", "_law_lengths_here", "_law_other"]) fun _ _ _ _ _ _ us hl => match us, hl with | [_, _, _], _ => rfl)⟩
  have F18 := fun_mk (st := sEqs) l18 c18 k18
  have D18 : Df K mg "_law_equals_right" sEqs ["_law_source_here", "_law_catalog", "_law_lengths_here", "_law_signs_here"] := ⟨f18, _, PySem.W.mg_of X G a18, F18, (F18.binds (ps := ["_law_source_here", "_law_catalog", "_law_lengths_here", "_law_signs_here"]) fun _ _ _ _ _ _ us hl => match us, hl with | [_, _, _, _], _ => rfl)⟩
  have F19 := fun_mk (st := sLaw) l19 c19 k19
  have FmI := fun_mk (st := sIni) lmI cmI kmI
  let MI : Mf K C "__init__" "Catalog.__init__" sIni ["self", "lengths"] := ⟨fmI, _, ⟨amI, imI, kmI⟩, FmI, (FmI.binds (ps := ["self", "lengths"]) fun _ _ _ _ _ _ us hl => match us, hl with | [_, _], _ => rfl)⟩
  have FmG := fun_mk (st := sGet) lmG cmG kmG
  let MG : Mf K C "__getitem__" "Catalog.__getitem__" sGet ["self", "at"] := ⟨fmG, _, ⟨amG, imG, kmG⟩, FmG, (FmG.binds (ps := ["self", "at"]) fun _ _ _ _ _ _ us hl => match us, hl with | [_, _], _ => rfl)⟩
  have FmH := fun_mk (st := sHas) lmH cmH kmH
  let MH : Mf K C "__contains__" "Catalog.__contains__" sHas ["self", "x"] := ⟨fmH, _, ⟨amH, imH, kmH⟩, FmH, (FmH.binds (ps := ["self", "x"]) fun _ _ _ _ _ _ us hl => match us, hl with | [_, _], _ => rfl)⟩
  have FmT := fun_mk (st := sItr) lmT cmT kmT
  let MT : Mf K C "__iter__" "Catalog.__iter__" sItr ["self"] := ⟨fmT, _, ⟨amT, imT, kmT⟩, FmT, (FmT.binds (ps := ["self"]) fun _ _ _ _ _ _ us hl => match us, hl with | [_], _ => rfl)⟩
  have FmN := fun_mk (st := sLen) lmN cmN kmN
  let MN : Mf K C "length" "Catalog.length" sLen ["self", "text"] := ⟨fmN, _, ⟨amN, imN, kmN⟩, FmN, (FmN.binds (ps := ["self", "text"]) fun _ _ _ _ _ _ us hl => match us, hl with | [_, _], _ => rfl)⟩
  have FmA := fun_mk (st := sAdd) lmA cmA kmA
  let MA : Mf K C "__add__" "Catalog.__add__" sAdd ["self", "other"] := ⟨fmA, _, ⟨amA, imA, kmA⟩, FmA, (FmA.binds (ps := ["self", "other"]) fun _ _ _ _ _ _ us hl => match us, hl with | [_, _], _ => rfl)⟩
  have FmS := fun_mk (st := sSub) lmS cmS kmS
  let MS : Mf K C "__sub__" "Catalog.__sub__" sSub ["self", "other"] := ⟨fmS, _, ⟨amS, imS, kmS⟩, FmS, (FmS.binds (ps := ["self", "other"]) fun _ _ _ _ _ _ us hl => match us, hl with | [_, _], _ => rfl)⟩
  have FmM := fun_mk (st := sMul) lmM cmM kmM
  let MM : Mf K C "__mul__" "Catalog.__mul__" sMul ["self", "other"] := ⟨fmM, _, ⟨amM, imM, kmM⟩, FmM, (FmM.binds (ps := ["self", "other"]) fun _ _ _ _ _ _ us hl => match us, hl with | [_, _], _ => rfl)⟩
  have FmR := fun_mk (st := sRmu) lmR cmR kmR
  let MR : Mf K C "__rmul__" "Catalog.__rmul__" sRmu ["self", "other"] := ⟨fmR, _, ⟨amR, imR, kmR⟩, FmR, (FmR.binds (ps := ["self", "other"]) fun _ _ _ _ _ _ us hl => match us, hl with | [_, _], _ => rfl)⟩
  have FmE := fun_mk (st := sEq) lmE cmE kmE
  let ME : Mf K C "__eq__" "Catalog.__eq__" sEq ["self", "other"] := ⟨fmE, _, ⟨amE, imE, kmE⟩, FmE, (FmE.binds (ps := ["self", "other"]) fun _ _ _ _ _ _ us hl => match us, hl with | [_, _], _ => rfl)⟩
  have FP := fun_mk (st := sLet) lP cP kP
  have bP := (FP.binds (ps := ["self"]) fun _ _ _ _ _ _ us hl => match us, hl with | [_], _ => rfl)
  have PO : PropOf K C "letters" pP fP := ⟨aP, gP, tP, reP, rP⟩
  have qint := PySem.W.mg_none_of X G zint
  have qabs := PySem.W.mg_none_of X G zabs
  have qlen := PySem.W.mg_none_of X G zlen
  have qlist := PySem.W.mg_none_of X G zlist
  have qrange := PySem.W.mg_none_of X G zrange
  have qsorted := PySem.W.mg_none_of X G zsorted
  have qstr := PySem.W.mg_none_of X G zstr
  have qisinstance := PySem.W.mg_none_of X G zisinstance
  have qbool := PySem.W.mg_none_of X G zbool
  have qsum := PySem.W.mg_none_of X G zsum
  have qdict := PySem.W.mg_none_of X G zdict
  have qiter := PySem.W.mg_none_of X G ziter
  have T : Cat K mg C := ⟨⟨pg, hd, po, sa⟩, nT, nL, PySem.W.mg_of X G aC, sf, ha, hn, ht, hm, kit_self, fun t h => by
    rcases h with rfl | rfl | rfl | rfl | rfl
    · exact ⟨kit_own ic ty b1dict, b2dict, b3dict⟩
    · exact ⟨kit_own ic ty b1list, b2list, b3list⟩
    · exact ⟨kit_own ic ty b1str, b2str, b3str⟩
    · exact ⟨kit_own ic ty b1int, b2int, b3int⟩
    · exact ⟨kit_own ic ty b1NoneType, b2NoneType, b3NoneType⟩, sI, im, ir⟩
  have MK : Mk K C MI.f := ⟨mk, amI, imI, kc⟩
  have F19' := F19
  refine ⟨PySem.W.fnOf "law" "law" (defArgs sLaw) (defBody sLaw) (defScope sLaw) .none kV19 dc19 pm19 an19 cd19 ct19, fun s v => .of_eq rfl, fun base _ _ => ?_⟩
  have e := hfa.symm.trans (PySem.W.mg_of X G a19)
  cases e
  have G6 : FnOk l.prog w K mg base CX0 1 _ _ _ _ := ok_source D6 qlist
  have G7 : FnOk l.prog w K mg base CX0 2 _ _ _ _ := ok_take D7 D5 qint qabs qlen
  have G8 : FnOk l.prog w K mg base CX0 3 _ _ _ _ := ok_signs D8 D7 G7 qrange qlen
  have G9 : FnOk l.prog w K mg base CX0 3 _ _ _ _ := ok_text D9 D7 G7 qrange qlen
  have G10 : FnOk l.prog w K mg base CX0 3 _ _ _ _ := ok_number D10 D7 G7
  have G11 : FnOk l.prog w K mg base CX0 4 _ _ _ _ := ok_lengths D11 D7 G7 D10 G10
  have GC : FnOk l.prog w K mg base CX0 1 _ _ _ _ := ok_combined D15 qlist
  have GL : FnOk l.prog w K mg base CX0 1 _ _ _ _ := ok_scaled D16
  have GI : FnOk l.prog w K mg base CX0 2 _ _ _ _ := ok_iniF T MI D1 qsorted qstr
  have GI0 : FnOk l.prog w K mg base CX0 2 _ _ _ _ := ok_ini T MI D1 qsorted qstr
  have GA : FnOk l.prog w K mg base CX0 4 _ _ _ _ := ok_add T MA MG MI MK GI0 qisinstance
  have GS : FnOk l.prog w K mg base CX0 4 _ _ _ _ := ok_sub T MS MG MI MK GI0 qisinstance
  have GM : FnOk l.prog w K mg base CX0 4 _ _ _ _ := ok_mul T MM MG MI MK GI0 qisinstance qint
  have GR : FnOk l.prog w K mg base CX0 5 _ _ _ _ := ok_rmu T MR MM GM
  have GE2 : FnOk l.prog w K mg base CX0 1 _ _ _ _ := ok_eq T ME qisinstance
  have GT : FnN l.prog w K mg base CX0 1 _ _ _ _ := ok_itr T MT qiter
  have GLt : FnOk l.prog w K mg base CX0 1 fP _ ["self"] (getSp C "_letters") := ok_let T FP
  have GF : FnOk l.prog w K mg base CX0 4 _ _ _ _ := ok_fits T D14 MT GT nl nh MG MH MN PO FP bP D13 qisinstance qint qbool qsorted qstr qlist qsum
  have GE : FnOk l.prog w K mg base CX0 4 _ _ _ _ := ok_eqR T D17 ME MI MK GI0 qisinstance qbool
  have GQ : FnOk l.prog w K mg base CX0 5 _ _ _ _ := ok_eqs T D18 D17 GE D12 D7 G7 qlist qlen qdict
  exact ok_law T ⟨_, _, PySem.W.mg_of X G a19, F19, F19.binds (ps := ["_law_script"]) fun _ _ _ _ _ _ us hl => match us, hl with | [_], _ => rfl⟩ D6 G6 D7 G7 D8 G8 D9 G9 D10 G10 D11 G11 D15 GC D16 GL D14 GF D17 GE D18 GQ MI GI MA GA MS GS MM GM MR GR ME GE2 MK PO GLt bP qlist qlen qdict qrange
theorem walk {l : PySem.W.OpenLaw} {q : Program} {loose : List Str} {XP : (Str → Option Value) → Heap → Prop} {YP : World → Heap → Prop} {d : DefRec} {K : Params → PySem.W.Frag} (hn : l.most = some 63) (hdf : d.params.defaults = [])
    (hY : ∀ (w : World) (h : Heap), YP w h → (K w.params).In h)
    (F : ∀ (w : World) (mg : Str → Option Value) (fa : Addr) (h : Heap), (K w.params).In h → h.Ns mainGlobals mg → mg d.name = some (.ref fa) →
      ∃ fd : FuncData, (∀ (s : Shared) (u : Value), BindsTo s fd ⟨[u], []⟩ [("_law_script", u)]) ∧ ∀ base : Heap, (K w.params).In base → base.Ns mainGlobals mg → FnOk l.prog w (K w.params) mg base CX0 6 fa fd ["_law_script"] (spLaw (K w.params))) :
    PySem.W.WalkO q loose XP YP l.row.toRowW d [] (fun f vs => PySem.call f vs) :=
  L2.walk_of (n := 63) (k := 6) (x := "_law_script") (CX := fun _ => CX0) (sp := fun w => spLaw (K w.params)) hn (by decide) hdf ⟨rfl, by decide, by decide⟩ hY F (fun _ _ a ns hl _ hS => ⟨a, ns, rfl, hS, hl, fun _ => rfl⟩) fun _ _ _ _ _ z => z
end DO
open PySem PySem.W PyProof.Rows
set_option maxRecDepth 100000 in
set_option maxHeartbeats 0 in
theorem PySem.Challenge.cw_drawingoffice_k19_catalogs_holds : PySem.Challenge.rw_drawingoffice_k19_catalogs.Holds := by
  w_on; o_law; k_head; (case hw => w_witness2)
  k_fill
  refine DO.walk (l := PySem.Challenge.rw_drawingoffice_k19_catalogs) rfl rfl (fun w h Y => PySem.W.kIn_of Y) ?F
  case F =>
    intro w mg fa h KX G hmg
    refine' DO.all_mk KX G hmg ?a1 ?l1 ?c1 ?k1 ?a5 ?l5 ?c5 ?k5 ?a6 ?l6 ?c6 ?k6 ?a7 ?l7 ?c7 ?k7 ?a8 ?l8 ?c8 ?k8 ?a9 ?l9 ?c9 ?k9 ?a10 ?l10 ?c10 ?k10 ?a11 ?l11 ?c11 ?k11 ?a12 ?l12 ?c12 ?k12 ?a13 ?l13 ?c13 ?k13 ?a14 ?l14 ?c14 ?k14 ?a15 ?l15 ?c15 ?k15 ?a16 ?l16 ?c16 ?k16 ?a17 ?l17 ?c17 ?k17 ?a18 ?l18 ?c18 ?k18 ?a19 ?l19 ?c19 ?k19 ?amI ?imI ?lmI ?cmI ?kmI ?amG ?imG ?lmG ?cmG ?kmG ?amH ?imH ?lmH ?cmH ?kmH ?amT ?imT ?lmT ?cmT ?kmT ?amN ?imN ?lmN ?cmN ?kmN ?amA ?imA ?lmA ?cmA ?kmA ?amS ?imS ?lmS ?cmS ?kmS ?amM ?imM ?lmM ?cmM ?kmM ?amR ?imR ?lmR ?cmR ?kmR ?amE ?imE ?lmE ?cmE ?kmE ?aP ?gP ?tP ?rP ?lP ?cP ?kP ?aC ?pg ?hd ?po ?sa ?mk ?kc ?nT ?nL ?sf ?ha ?hn ?ht ?hm ?ic ?ty ?sI ?im ?ir ?nl ?nh ?b1dict ?b2dict ?b3dict ?b1list ?b2list ?b3list ?b1str ?b2str ?b3str ?b1int ?b2int ?b3int ?b1NoneType ?b2NoneType ?b3NoneType ?zint ?zabs ?zlen ?zlist ?zrange ?zsorted ?zstr ?zisinstance ?zbool ?zsum ?zdict ?ziter
    (case aC => k_is)
    (case a1 => k_is)
    (case l1 => k_is)
    (case c1 => k_is)
    (case k1 => k_is)
    (case a5 => k_is)
    (case l5 => k_is)
    (case c5 => k_is)
    (case k5 => k_is)
    (case a6 => k_is)
    (case l6 => k_is)
    (case c6 => k_is)
    (case k6 => k_is)
    (case a7 => k_is)
    (case l7 => k_is)
    (case c7 => k_is)
    (case k7 => k_is)
    (case a8 => k_is)
    (case l8 => k_is)
    (case c8 => k_is)
    (case k8 => k_is)
    (case a9 => k_is)
    (case l9 => k_is)
    (case c9 => k_is)
    (case k9 => k_is)
    (case a10 => k_is)
    (case l10 => k_is)
    (case c10 => k_is)
    (case k10 => k_is)
    (case a11 => k_is)
    (case l11 => k_is)
    (case c11 => k_is)
    (case k11 => k_is)
    (case a12 => k_is)
    (case l12 => k_is)
    (case c12 => k_is)
    (case k12 => k_is)
    (case a13 => k_is)
    (case l13 => k_is)
    (case c13 => k_is)
    (case k13 => k_is)
    (case a14 => k_is)
    (case l14 => k_is)
    (case c14 => k_is)
    (case k14 => k_is)
    (case a15 => k_is)
    (case l15 => k_is)
    (case c15 => k_is)
    (case k15 => k_is)
    (case a16 => k_is)
    (case l16 => k_is)
    (case c16 => k_is)
    (case k16 => k_is)
    (case a17 => k_is)
    (case l17 => k_is)
    (case c17 => k_is)
    (case k17 => k_is)
    (case a18 => k_is)
    (case l18 => k_is)
    (case c18 => k_is)
    (case k18 => k_is)
    (case a19 => k_is)
    (case l19 => k_is)
    (case c19 => k_is)
    (case k19 => k_is)
    (case amI => k_is)
    (case imI => k_is)
    (case lmI => k_is)
    (case cmI => k_is)
    (case kmI => k_is)
    (case amG => k_is)
    (case imG => k_is)
    (case lmG => k_is)
    (case cmG => k_is)
    (case kmG => k_is)
    (case amH => k_is)
    (case imH => k_is)
    (case lmH => k_is)
    (case cmH => k_is)
    (case kmH => k_is)
    (case amT => k_is)
    (case imT => k_is)
    (case lmT => k_is)
    (case cmT => k_is)
    (case kmT => k_is)
    (case amN => k_is)
    (case imN => k_is)
    (case lmN => k_is)
    (case cmN => k_is)
    (case kmN => k_is)
    (case amA => k_is)
    (case imA => k_is)
    (case lmA => k_is)
    (case cmA => k_is)
    (case kmA => k_is)
    (case amS => k_is)
    (case imS => k_is)
    (case lmS => k_is)
    (case cmS => k_is)
    (case kmS => k_is)
    (case amM => k_is)
    (case imM => k_is)
    (case lmM => k_is)
    (case cmM => k_is)
    (case kmM => k_is)
    (case amR => k_is)
    (case imR => k_is)
    (case lmR => k_is)
    (case cmR => k_is)
    (case kmR => k_is)
    (case amE => k_is)
    (case imE => k_is)
    (case lmE => k_is)
    (case cmE => k_is)
    (case kmE => k_is)
    (case aP => k_is)
    (case gP => k_is)
    (case tP => k_is)
    (case rP => k_is)
    (case lP => k_is)
    (case cP => k_is)
    (case kP => k_is)
    (case pg => k_is)
    (case hd => k_is)
    (case po => k_is)
    (case sa => k_is)
    (case mk => k_is)
    (case kc => k_is)
    (case nT => k_is)
    (case nL => k_is)
    (case sf => k_is)
    (case ha => k_is)
    (case hn => k_is)
    (case ht => k_is)
    (case hm => k_is)
    (case ic => k_is)
    (case ty => k_is)
    (case sI => k_is)
    (case im => k_is)
    (case ir => k_is)
    (case nl => k_is)
    (case nh => k_is)
    (case b1dict => k_is)
    (case b2dict => k_is)
    (case b3dict => k_is)
    (case b1list => k_is)
    (case b2list => k_is)
    (case b3list => k_is)
    (case b1str => k_is)
    (case b2str => k_is)
    (case b3str => k_is)
    (case b1int => k_is)
    (case b2int => k_is)
    (case b3int => k_is)
    (case b1NoneType => k_is)
    (case b2NoneType => k_is)
    (case b3NoneType => k_is)
    (case zint => k_is)
    (case zabs => k_is)
    (case zlen => k_is)
    (case zlist => k_is)
    (case zrange => k_is)
    (case zsorted => k_is)
    (case zstr => k_is)
    (case zisinstance => k_is)
    (case zbool => k_is)
    (case zsum => k_is)
    (case zdict => k_is)
    (case ziter => k_is)
