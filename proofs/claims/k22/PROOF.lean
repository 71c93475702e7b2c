import PyProof.Rows.All
import Wide.All
import OpenK.AllK
import Wide.FinOn
import HandS.ForMost
import HandS.IsInst
import PySem.Challenge.RW_leverhouse_k22_switching_of_a_play
set_option Elab.async false
set_option linter.all false
set_option maxRecDepth 100000
namespace Lv
open PySem PySem.Spec PyProof.Rows L2
def topS (i : Nat) : Stmt := PySem.Challenge.pw_leverhouse_k22_switching_of_a_play.main.body.getD i (.Pass ⟨0, 0, 0, 0⟩)
abbrev sSw : Stmt := topS 1
abbrev sRow : Stmt := topS 3
abbrev sNumbers : Stmt := topS 4
abbrev sNames : Stmt := topS 5
abbrev sAre : Stmt := topS 6
abbrev sLaw : Stmt := topS 7
/-! ### strings and numbers -/
def alph : List Nat := ("abcdefghijklmnopqrstuvwxyz0123456789" : Str).cps.toList
theorem alph_len : alph.length = 36 := by decide +kernel
theorem alph_lt : ∀ c ∈ alph, c < 1114112 := by decide +kernel
/-- letters and figures alone -/
def Al (z : Str) : Prop := ∀ c ∈ z.cps.toList, c ∈ alph
/-- a name: 1 to 12 letters and figures -/
def Nm (z : Str) : Prop := 1 ≤ z.length ∧ z.length ≤ 12 ∧ Al z
def Nums (ns : List Int) : Prop := ∀ n ∈ ns, 0 ≤ n ∧ n < 1009
theorem len_tl (z : Str) : z.length = z.cps.toList.length := by
  show z.cps.size = z.cps.toList.length
  rw [Array.length_toList]
theorem app_tl (a b : Str) : (a ++ b).cps.toList = a.cps.toList ++ b.cps.toList := by
  show (a.cps ++ b.cps).toList = _
  rw [Array.toList_append]
theorem app_len (a b : Str) : (a ++ b).length = a.length + b.length := by
  rw [len_tl, len_tl, len_tl, app_tl, List.length_append]
theorem Al.app {a b : Str} (h1 : Al a) (h2 : Al b) : Al (a ++ b) := by
  intro c hc
  rw [app_tl, List.mem_append] at hc
  rcases hc with hc | hc
  · exact h1 c hc
  · exact h2 c hc
theorem Al.ok {z : Str} (h : Al z) : PyData.strOk z = true := by
  unfold PyData.strOk
  rw [← Array.all_toList, List.all_eq_true]
  intro c hc
  exact decide_eq_true (alph_lt c (h c hc))
theorem str_ext {a b : Str} (h : a.cps.toList = b.cps.toList) : a = b := by
  cases a; cases b
  exact congrArg Str.mk (Array.toList_inj.mp h)
theorem cut_take (z : Str) (p : Nat) : (cutS z none (some (p : Int))).cps.toList = z.cps.toList.take p := by
  unfold cutS
  rw [HT.sIx_nat, HT.sIx_none, List.drop_zero, Nat.sub_zero, len_tl]
  show (List.take (min p z.cps.toList.length) z.cps.toList).toArray.toList = _
  exact List.take_eq_take_min.symm
theorem cut_drop (z : Str) (p : Nat) : (cutS z (some (p : Int)) none).cps.toList = z.cps.toList.drop p := by
  unfold cutS
  rw [HT.sIx_nat, HT.sIx_none, len_tl]
  show (List.take (z.cps.toList.length - min p z.cps.toList.length) (List.drop (min p z.cps.toList.length) z.cps.toList)).toArray.toList = _
  by_cases h : p ≤ z.cps.toList.length
  · rw [Nat.min_eq_left h]
    exact List.take_of_length_le (by rw [List.length_drop]; exact Nat.le_refl _)
  · rw [Nat.min_eq_right (by omega), List.drop_length, List.drop_eq_nil_of_le (by omega)]
    simp
theorem join_ok : ∀ zs : List Str, (∀ z ∈ zs, z.length = 1 ∧ Al z) → (Str.join "" zs).length = zs.length ∧ Al (Str.join "" zs)
  | [], _ => ⟨rfl, fun c hc => by cases hc⟩
  | [x], h => ⟨(h x (List.mem_singleton.mpr rfl)).1, (h x (List.mem_singleton.mpr rfl)).2⟩
  | x :: y :: r, h => by
    have ih := join_ok (y :: r) fun z hz => h z (List.mem_cons_of_mem _ hz)
    have hx := h x List.mem_cons_self
    have e0 : ("" : Str).length = 0 := by decide +kernel
    have a0 : Al ("" : Str) := fun c hc => by cases hc
    show (x ++ ("" : Str) ++ Str.join "" (y :: r)).length = _ ∧ Al (x ++ ("" : Str) ++ Str.join "" (y :: r))
    refine ⟨?_, (hx.2.app a0).app ih.2⟩
    rw [app_len, app_len, hx.1, e0, ih.1]
    show 1 + 0 + (y :: r).length = (y :: r).length + 1
    omega
theorem at_in {α : Type} (xs : List α) (i : Int) (h0 : 0 ≤ i) (h1 : i < (xs.length : Int)) : ∃ v, v ∈ xs ∧ xs[i.toNat]? = some v ∧ atI xs i = some v := by
  have hl : i.toNat < xs.length := by omega
  refine ⟨xs[i.toNat], List.getElem_mem hl, List.getElem?_eq_getElem hl, ?_⟩
  have e := atI_nat (xs := xs) (j := i.toNat) (List.getElem?_eq_getElem hl)
  rwa [Int.toNat_of_nonneg h0] at e
theorem at_num {ns : List Int} (hn : Nums ns) (i : Int) (h0 : 0 ≤ i) (h1 : i < (ns.length : Int)) : ∃ n, 0 ≤ n ∧ n < 1009 ∧ atI (ns.map V.int) i = some (.int n) := by
  obtain ⟨v, hv, _, e⟩ := at_in (ns.map V.int) i h0 (by rw [List.length_map]; exact h1)
  obtain ⟨n, hm, rfl⟩ := List.mem_map.mp hv
  exact ⟨n, (hn n hm).1, (hn n hm).2, e⟩
theorem Nums.snoc {ns : List Int} (h : Nums ns) {n : Int} (h0 : 0 ≤ n) (h1 : n < 1009) : Nums (ns ++ [n]) := by
  intro m hm
  rw [List.mem_append, List.mem_singleton] at hm
  rcases hm with hm | rfl
  · exact h m hm
  · exact ⟨h0, h1⟩
/-! ### heaps -/
theorem same_upd {H : Hp} {p : Addr} {o : HO} (h : H p = none) : Same H (upd H p o) := fun b x e => by
  rw [upd_ne (ne_of_none e h)]
  exact e
/-- what H does not know may change -/
theorem same_mut {H H2 : Hp} {p : Addr} {o : HO} (s : Same H H2) (h : H p = none) : Same H (upd H2 p o) := fun b x e => by
  rw [upd_ne (ne_of_none e h)]
  exact s _ _ e
theorem sq {K : PySem.W.Frag} {H : Hp} {a : Addr} {xs : List V} (h : H a = some (.lst xs)) : SqL K H a xs := .inl (.inl h)
theorem st {K : PySem.W.Frag} {H : Hp} {a : Addr} {xs : List V} (h : H a = some (.tup xs)) : SqT K H a xs := .inl (.inl h)
theorem szl {n : Nat} (h : n ≤ 1000000) : n ≤ sizeLine := Nat.le_trans h (by decide)
theorem szlt {n : Nat} (h : n ≤ 1000000) : n < sizeLine := Nat.lt_of_le_of_lt h (by decide)
theorem map_snoc {α β : Type} (f : α → β) (xs : List α) (x : α) : (xs ++ [x]).map f = xs.map f ++ [f x] := by
  rw [List.map_append]
  rfl
theorem cut_list (xs : List V) (n : Nat) : cutV xs none (some (n : Int)) = xs.take n := by
  unfold cutV
  rw [HT.sIx_nat, HT.sIx_none, List.drop_zero, Nat.sub_zero, ← List.take_eq_take_min]
theorem yesT {σ : L2.St} {H : Hp} {A B : Hp → Prop} (h : A H) : tYes σ H (fun b H3 => if b = true then A H3 else B H3) := by
  show (if true = true then A H else B H)
  rw [if_pos rfl]
  exact h
section
variable {P : Program} {w : World} {K : PySem.W.Frag} {mg : Str → Option Value} {base : Heap}
/-! ### _law_row -/
def spRow : Sp := fun vs H Q _ => ∃ (c : Int) (m : Nat), vs = [.int c, .int m] ∧ m ≤ 100000 ∧ ∀ H' p (ns : List Int), Same H H' → H p = none → H' p = some (.lst (ns.map V.int)) → ns.length = m → Nums ns → Q (.ref p) H'
theorem scRow : FnScope ["cell", "many", "row", "rest", "k", "mixed"] ["cell", "many"] (defScope sRow) := ⟨rfl, rfl, rfl, by decide +kernel, rfl, by decide +kernel, by decide +kernel⟩
theorem ok_row {f : Addr} {fd : FuncData} {k : Nat} (F : Fun K "_law_row" "_law_row" sRow f fd) (ma : mg "abs" = none) (mi : mg "int" = none) (mr : mg "range" = none) : FnOk P w K mg base CX0 (k + 1) f fd ["cell", "many"] spRow := by
  refine F.ok scRow (fun vs H Q E h => ?_) (fun cdv A outer s H vs Q E hr h => ?_)
  · obtain ⟨c, m, rfl, _⟩ := h
    rfl
  · obtain ⟨c, m, rfl, hm, q⟩ := h
    refine ⟨_, pss_cons (ps_set (i := 2) scRow.nd rfl (.inl rfl) (pe_lst pa_nil))
      (pss_cons (ps_set (i := 3) scRow.nd rfl (.inl rfl) (pe_callB call_abs (by rfl) ma (by decide +kernel) (pa_cons (pe_callTy call_int1 (by rfl) mi (by decide +kernel) (pa_cons (pv 0) pa_nil)) pa_nil)))
      (pss_cons (ps_for PassesOwn.never rfl (pi_range1 rfl mr (pa_cons (pv 1) pa_nil)) (pg_name (i := 4) scRow.nd rfl (.inl rfl))
        (pss_one (ps_if (pt_cmpR op_ge (pe_callB call_abs (by rfl) ma (by decide +kernel) (pa_cons (pe_callTy call_int1 (by rfl) mi (by decide +kernel) (pa_cons (pv 0) pa_nil)) pa_nil)) (pe_op op_pow pe_int pe_int) (nomark _))
          (pss_cons (ps_expr (pe_bm PySem.F.plainAttrs_list PySem.F.slot_list_append PySem.F.type_list_append mt_append (pv 2) (pa_cons (pe_op op_mod (pe_callTy call_int1 (by rfl) mi (by decide +kernel) (pa_cons (pv 3) pa_nil)) pe_int) pa_nil)))
          (pss_one (ps_set (i := 3) scRow.nd rfl (.inl rfl) (pe_op op_fdiv (pv 3) pe_int))))
          (pss_cons (ps_set (i := 5) scRow.nd rfl (.inl rfl) (pe_op op_mod (pe_callTy call_int1 (by rfl) mi (by decide +kernel) (pa_cons (pe_op op_add (pe_op op_mul (pv 3) pe_int) (pe_op op_mul (pe_op op_add (pv 4) pe_int) pe_int)) pa_nil)) pe_int))
          (pss_cons (ps_set (i := 5) scRow.nd rfl (.inl rfl) (pe_op op_mod (pe_callTy call_int1 (by rfl) mi (by decide +kernel) (pa_cons (pe_op op_add (pe_op op_mul (pv 5) pe_int) (pe_op op_mul pe_int (pe_op op_add (pv 4) pe_int))) pa_nil)) pe_int))
          (pss_one (ps_expr (pe_bm PySem.F.plainAttrs_list PySem.F.slot_list_append PySem.F.type_list_append mt_append (pv 2) (pa_cons (pe_op op_mod (pe_callTy call_int1 (by rfl) mi (by decide +kernel) (pa_cons (pv 5) pa_nil)) pe_int) pa_nil)))))))))
      (pss_one (ps_ret (pv 2))))), ?_⟩
    have e18 : (10 : Int) ^ (18 : Int).toNat = 1000000000000000000 := by decide +kernel
    refine ⟨Nat.zero_le _, fun o no => ?_⟩
    have s1 : Same H (upd H o (.lst [])) := same_upd no
    refine ⟨_, rfl, .inl ⟨_, rfl, _, rfl, ?_⟩⟩
    generalize hb : (if c < 0 then -c else c) = ab
    have hb0 : 0 ≤ ab := by
      rw [← hb]
      split <;> omega
    refine ⟨_, rfl, (m : Int), rfl, by omega, by omega, ?_⟩
    refine for_range (lo := 0) (n := (m : Int).toNat) (fun i σ H2 => ∃ (r : Int) (ns : List Int) (z4 z5 : Option V), σ = [some (.int c), some (.int m), some (.ref o), some (.int r), z4, z5] ∧ Same H H2 ∧ H2 o = some (.lst (ns.map V.int)) ∧ ns.length = i ∧ Nums ns ∧ 0 ≤ r ∧ (ab < 1000000000000000000 → r < 1000000000000000000))
      ⟨ab, [], none, none, rfl, s1, upd_same, rfl, (fun n hn => by cases hn), hb0, fun h => h⟩ ?_ ?_
    · rintro i σ H2 hi ⟨r, ns, z4, z5, rfl, sm, ho, hl, hn, hr0, hr1⟩
      refine ⟨_, rfl, .inl ⟨_, rfl, _, rfl, ?_⟩⟩
      rw [hb]
      refine ⟨_, _, rfl, rfl, ⟨by decide, by decide, by decide⟩, _, _, rfl, rfl, _, rfl, ?_⟩
      rw [e18]
      refine ite2 (fun hbig => ?_) (fun hsm => ?_)
      · refine ⟨.ref o, rfl, .inl ⟨rfl, _, sq ho⟩, _, rfl, .inl ⟨_, rfl, _, _, rfl, rfl, (by show (0 : Int) < 1009; decide), o, _, _, rfl, rfl, ho, ?_, ?_⟩⟩
        · rw [List.length_map]
          exact szlt (by omega)
        · have hbig' : (1000000000000000000 : Int) ≤ ab := of_decide_eq_true hbig
          refine ⟨_, rfl, _, _, rfl, rfl, ⟨by decide, by decide⟩, r / 1009, ns ++ [r % 1009], _, _, rfl, same_mut sm no, ?_, ?_, hn.snoc (by omega) (by omega), by omega, fun z => by omega⟩
          · rw [upd_same, map_snoc]
          · rw [List.length_append, hl]
            rfl
      · have hsm' : ab < 1000000000000000000 := by
          have := of_decide_eq_false (Bool.eq_false_iff.mpr hsm)
          omega
        have hr2 := hr1 hsm'
        have b64 : (2 : Int) ^ 64 = 18446744073709551616 := by decide
        refine ⟨_, rfl, _, _, rfl, rfl, .inl ⟨by omega, by omega⟩, _, rfl, _, _, rfl, rfl, _, _, rfl, rfl, .inr ⟨by decide, by decide⟩, _, _, rfl, rfl, .inl ⟨_, rfl, _, _, rfl, rfl, (by show (0 : Int) < 2147483647; decide), ?_⟩⟩
        refine ⟨_, rfl, _, _, rfl, rfl, .inr ⟨by decide, by decide⟩, _, rfl, _, _, rfl, rfl, _, _, rfl, rfl, .inl ⟨by decide, by decide⟩, _, _, rfl, rfl, .inl ⟨_, rfl, _, _, rfl, rfl, (by show (0 : Int) < 2147483629; decide), ?_⟩⟩
        refine ⟨.ref o, rfl, .inl ⟨rfl, _, sq ho⟩, _, rfl, .inl ⟨_, rfl, _, _, rfl, rfl, (by show (0 : Int) < 1009; decide), o, _, _, rfl, rfl, ho, ?_, ?_⟩⟩
        · rw [List.length_map]
          exact szlt (by omega)
        · refine ⟨r, ns ++ [(((r * 48271 + (0 + (i : Int) + 1) * 69621) % 2147483647 * 16807 + 271 * (0 + (i : Int) + 3)) % 2147483629) % 1009], _, _, rfl, same_mut sm no, ?_, ?_, hn.snoc (Int.emod_nonneg _ (by decide)) (Int.emod_lt_of_pos _ (by decide)), hr0, hr1⟩
          · rw [upd_same, map_snoc]
          · rw [List.length_append, hl]
            rfl
    · rintro σ H2 ⟨r, ns, z4, z5, rfl, sm, ho, hl, hn, hr0, hr1⟩
      exact ⟨.ref o, rfl, q H2 o ns sm no ho (by omega) hn⟩
/-! ### _law_numbers -/
def spNumbers (K : PySem.W.Frag) : Sp := fun vs H Q _ => ∃ (a : Addr) (cs : List Int) (m : Nat), vs = [.ref a, .int m] ∧ SqL K H a (cs.map V.int) ∧ cs.length ≤ 63 ∧ m ≤ 5000 ∧
  ∀ H' p (ns : List Int), Same H H' → H p = none → H' p = some (.lst (ns.map V.int)) → ns.length = m → Nums ns → Q (.ref p) H'
theorem scNumbers : FnScope ["script", "many", "cells", "each", "numbers", "cell", "number"] ["script", "many"] (defScope sNumbers) := ⟨rfl, rfl, rfl, by decide +kernel, rfl, by decide +kernel, by decide +kernel⟩
theorem ok_numbers {f fR : Addr} {fd fdR : FuncData} {k : Nat} (F : Fun K "_law_numbers" "_law_numbers" sNumbers f fd) (FR : Fun K "_law_row" "_law_row" sRow fR fdR) (bR : Binds K fdR ["cell", "many"] []) (gR : mg "_law_row" = some (.ref fR))
    (ma : mg "abs" = none) (mi : mg "int" = none) (mr : mg "range" = none) (mx : mg "max" = none) (ml : mg "len" = none) : FnOk P w K mg base CX0 (k + 2) f fd ["script", "many"] (spNumbers K) := by
  have GR : FnOk P w K mg base CX0 (k + 1) fR fdR ["cell", "many"] spRow := ok_row FR ma mi mr
  refine F.ok scNumbers (fun vs H Q E h => ?_) (fun cdv A outer s H vs Q E hr h => ?_)
  · obtain ⟨a, cs, m, rfl, _⟩ := h
    rfl
  · obtain ⟨a, cs, m, rfl, hS, hlen, hm, q⟩ := h
    refine ⟨_, pss_cons (ps_set (i := 2) scNumbers.nd rfl (.inl rfl) (pe_slice sl_list (pv 0) po_none (po_some pe_int)))
      (pss_cons (ps_set (i := 3) scNumbers.nd rfl (.inl rfl) (pe_op op_add pe_int (pe_op op_fdiv (pv 1) (pe_callB (call_max2 rfl) (by rfl) mx (by decide +kernel) (pa_cons pe_int (pa_cons (pe_callB call_len_seq (by rfl) ml PySem.boot_len (pa_cons (pv 2) pa_nil)) pa_nil))))))
      (pss_cons (ps_set (i := 4) scNumbers.nd rfl (.inl rfl) (pe_lst pa_nil))
      (pss_cons (ps_for PassesOwn.never rfl (pi_list (pv 2)) (pg_name (i := 5) scNumbers.nd rfl (.inl rfl))
        (pss_one (ps_for PassesOwn.never rfl (pi_list (pe_call GR hr (by rfl) gR FR.kp bR .nil pass0 (pa_cons (pv 5) (pa_cons (pv 3) pa_nil)))) (pg_name (i := 6) scNumbers.nd rfl (.inl rfl))
          (pss_one (ps_expr (pe_bm PySem.F.plainAttrs_list PySem.F.slot_list_append PySem.F.type_list_append mt_append (pv 4) (pa_cons (pv 6) pa_nil)))))))
      (pss_cons (ps_while PassesOwn.never (pt_cmpR op_lt (pe_callB call_len_seq (by rfl) ml PySem.boot_len (pa_cons (pv 4) pa_nil)) (pv 1) (nomark _))
          (pss_one (ps_expr (pe_bm PySem.F.plainAttrs_list PySem.F.slot_list_append PySem.F.type_list_append mt_append (pv 4) (pa_cons pe_int pa_nil)))))
      (pss_one (ps_ret (pe_slice sl_list (pv 4) po_none (po_some (pv 1))))))))), ?_⟩
    -- cells = script[:63]
    refine ⟨_, rfl, 63, rfl, a, _, rfl, hS, fun c nc => ?_⟩
    rw [show ((63 : Int)) = ((63 : Nat) : Int) from rfl, cut_list, List.take_of_length_le (by rw [List.length_map]; exact hlen)]
    have s1 : Same H (upd H c (.lst (cs.map V.int))) := same_upd nc
    -- each = 1 + many // max(1, len(cells))
    refine ⟨_, rfl, _, rfl, c, _, rfl, .inl (sq upd_same), _, _, rfl, ?_⟩
    generalize hd : (if ((cs.map V.int).length : Int) > 1 then ((cs.map V.int).length : Int) else 1) = dv
    have hd1 : 1 ≤ dv ∧ dv ≤ 63 := by
      rw [List.length_map] at hd
      rw [← hd]
      split <;> omega
    refine ⟨_, _, rfl, rfl, ⟨by omega, by omega⟩, _, _, rfl, rfl, ?_⟩
    have he : ∃ e : Nat, (1 + (m : Int) / dv) = (e : Int) ∧ e ≤ 5001 := by
      have h0 : 0 ≤ (m : Int) / dv := Int.ediv_nonneg (by omega) (by omega)
      have h1 : (m : Int) / dv ≤ m := Int.ediv_le_self _ (by omega)
      exact ⟨(1 + (m : Int) / dv).toNat, by omega, by omega⟩
    obtain ⟨e, ee, he⟩ := he
    -- numbers = []
    refine ⟨Nat.zero_le _, fun o no => ?_⟩
    have nco : c ≠ o := ne_of_none upd_same no
    have no' : H o = none := s1.free no
    refine ⟨.ref c, rfl, c, rfl, ⟨_, sq (by rw [upd_ne nco]; exact upd_same)⟩, for_list (K := K) (a := c) (xs := cs.map V.int) (fun i σ H2 => ∃ (ns : List Int) (z5 z6 : Option V), σ = [some (.ref a), some (.int m), some (.ref c), some (.int (1 + (m : Int) / dv)), some (.ref o), z5, z6] ∧ Same H H2 ∧ H2 c = some (.lst (cs.map V.int)) ∧ H2 o = some (.lst (ns.map V.int)) ∧ ns.length = i * e ∧ Nums ns)
      ⟨[], none, none, rfl, same_mut s1 no', by rw [upd_ne nco]; exact upd_same, upd_same, by rw [Nat.zero_mul]; rfl, fun n hn => by cases hn⟩ (fun i σ H2 _ ⟨_, _, _, _, _, hc, _⟩ => sq hc) ?_ ?_⟩
    · rintro i y σ H2 hi ⟨ns, z5, z6, rfl, sm, hc, ho, hl, hn⟩
      have hil : i < (cs.map V.int).length := (List.getElem?_eq_some_iff.mp hi).1
      rw [List.length_map] at hil
      obtain ⟨z, rfl⟩ : ∃ z, y = V.int z := by
        rw [List.getElem?_map, List.getElem?_eq_getElem hil] at hi
        exact ⟨_, (Option.some.inj hi).symm⟩
      have hie : i * e ≤ 63 * 5001 := Nat.mul_le_mul (by omega) he
      refine ⟨_, rfl, _, rfl, z, e, congrArg (fun t => [V.int z, V.int t]) ee, by omega, fun H3 r rs s3 nr hr3 hrl hrn => ?_⟩
      have hc3 := s3 _ _ hc
      have ho3 := s3 _ _ ho
      have nro : r ≠ o := fun z => by
        rw [z, ho] at nr
        cases nr
      refine ⟨r, rfl, ⟨_, sq hr3⟩, for_list (K := K) (a := r) (xs := rs.map V.int) (fun j σ H4 => ∃ (z6 : Option V), σ = [some (.ref a), some (.int m), some (.ref c), some (.int (1 + (m : Int) / dv)), some (.ref o), some (.int z), z6] ∧ Same H H4 ∧ H4 c = some (.lst (cs.map V.int)) ∧ H4 r = some (.lst (rs.map V.int)) ∧ H4 o = some (.lst ((ns ++ rs.take j).map V.int)))
        ⟨z6, rfl, sm.trans s3, hc3, hr3, by rw [List.take_zero, List.append_nil]; exact ho3⟩ (fun j σ H4 _ ⟨_, _, _, _, h4, _⟩ => sq h4) ?_ ?_⟩
      · rintro j y σ H4 hj ⟨w6, rfl, s4, hc4, hr4, ho4⟩
        have hjl : j < (rs.map V.int).length := (List.getElem?_eq_some_iff.mp hj).1
        rw [List.length_map] at hjl
        obtain ⟨n, hnj, rfl⟩ : ∃ n, rs[j]? = some n ∧ y = V.int n := by
          rw [List.getElem?_map, List.getElem?_eq_getElem hjl] at hj
          exact ⟨_, List.getElem?_eq_getElem hjl, (Option.some.inj hj).symm⟩
        refine ⟨.ref o, rfl, .inl ⟨rfl, _, sq ho4⟩, _, rfl, o, _, _, rfl, rfl, ho4, ?_, ?_⟩
        · rw [List.length_map, List.length_append, List.length_take]
          exact szlt (by omega)
        · refine ⟨_, rfl, same_mut s4 no', by rw [upd_ne nco]; exact hc4, by rw [upd_ne nro]; exact hr4, ?_⟩
          rw [upd_same, ← map_snoc, List.append_assoc, List.take_add_one, hnj]
          rfl
      · rintro σ H4 ⟨w6, rfl, s4, hc4, hr4, ho4⟩
        rw [List.length_map, List.take_length] at ho4
        refine ⟨ns ++ rs, _, _, rfl, s4, hc4, ho4, ?_, fun n hn2 => ?_⟩
        · rw [List.length_append, hl, hrl, Nat.succ_mul]
        · rcases List.mem_append.mp hn2 with h | h
          · exact hn n h
          · exact hrn n h
    · rintro σ H2 ⟨ns, z5, z6, rfl, sm, hc, ho, hl, hn⟩
      rw [List.length_map] at hl
      have hle : ns.length ≤ 63 * 5001 := by
        rw [hl]
        exact Nat.mul_le_mul hlen he
      -- while len(numbers) < many
      refine while_by (fun σ H3 => ∃ ns' : List Int, σ = [some (.ref a), some (.int m), some (.ref c), some (.int (1 + (m : Int) / dv)), some (.ref o), z5, z6] ∧ Same H H3 ∧ H3 o = some (.lst (ns'.map V.int)) ∧ ns'.length ≤ 400000 ∧ Nums ns')
        (fun σ H3 => match H3 o with | some (.lst xs) => m - xs.length | _ => 0) ⟨ns, rfl, sm, ho, by omega, hn⟩ ?_ ?_
      · rintro σ H3 ⟨ns', rfl, s3, ho3, hl3, hn3⟩
        refine ⟨.ref o, rfl, o, _, rfl, .inl (sq ho3), _, rfl, _, _, rfl, rfl, _, rfl, ?_⟩
        rw [List.length_map]
        refine ite2 (fun hlt => ?_) (fun hge => ?_)
        · have hlt' : (ns'.length : Int) < m := of_decide_eq_true hlt
          refine ⟨.ref o, rfl, .inl ⟨rfl, _, sq ho3⟩, o, _, _, rfl, rfl, ho3, by rw [List.length_map]; exact szlt (by omega), ?_⟩
          refine ⟨⟨ns' ++ [0], rfl, same_mut s3 no', by rw [upd_same, map_snoc], by rw [List.length_append]; show ns'.length + 1 ≤ 400000; omega, hn3.snoc (by decide) (by decide)⟩, ?_⟩
          rw [upd_same, ho3]
          show m - (ns'.map V.int ++ [V.int 0]).length < m - (ns'.map V.int).length
          rw [List.length_append, List.length_map]
          show m - (ns'.length + 1) < m - ns'.length
          omega
        · have hge' : ¬ (ns'.length : Int) < m := of_decide_eq_false (Bool.eq_false_iff.mpr hge)
          refine ⟨_, rfl, _, rfl, (m : Int), rfl, o, _, rfl, sq ho3, fun p np => ?_⟩
          rw [cut_list, ← List.map_take]
          refine q _ p (ns'.take m) (same_mut s3 (s3.free np)) (s3.free np) upd_same (by rw [List.length_take]; omega) fun n h => hn3 n (List.mem_of_mem_take h)
      · rintro σ H Q Q' hq ⟨v, hv, p, ys, e0, hs, v1, hv1, i, j, e1, e2, k, e3, r⟩
        exact ⟨v, hv, p, ys, e0, hs, v1, hv1, i, j, e1, e2, k, e3, hq _ _ r⟩
/-! ### _law_names -/
def spNames : Sp := fun vs H Q _ => ∃ (x y : Int) (m : Nat), vs = [.int x, .int y, .int m] ∧ (0 ≤ x ∧ x < 1009) ∧ (0 ≤ y ∧ y < 1009) ∧ m ≤ 1000 ∧
  ∀ H' p (zs : List Str), Same H H' → H p = none → H' p = some (.lst (zs.map V.str)) → zs.length = m → (∀ z ∈ zs, Nm z) → Q (.ref p) H'
theorem scNames : FnScope ["number", "other", "many", "chars", "size", "rest", "place", "k"] ["number", "other", "many"] (defScope sNames) := ⟨rfl, rfl, rfl, by decide +kernel, rfl, by decide +kernel, by decide +kernel⟩
theorem at_ch (i : Int) (h0 : 0 ≤ i) (h1 : i < 36) : ∃ c, c ∈ alph ∧ atI ("abcdefghijklmnopqrstuvwxyz0123456789" : Str).cps.toList i = some c := by
  obtain ⟨c, hc, _, e⟩ := at_in alph i h0 (by rw [alph_len]; exact h1)
  exact ⟨c, hc, e⟩
theorem one_al {c : Nat} (h : c ∈ alph) : (⟨#[c]⟩ : Str).length = 1 ∧ Al (⟨#[c]⟩ : Str) := ⟨rfl, fun d hd => by
  have : d = c := by simpa using hd
  rw [this]
  exact h⟩
theorem name_of {rest : Str} {P : Int} {c : Nat} (hP : 0 ≤ P) (hr : Al rest) (hl : rest.length ≤ 11) (hc : c ∈ alph) : Nm (cutS rest none (some P) ++ ⟨#[c]⟩ ++ cutS rest (some P) none) := by
  obtain ⟨p, rfl⟩ : ∃ p : Nat, P = (p : Int) := ⟨P.toNat, (Int.toNat_of_nonneg hP).symm⟩
  have h1 := cut_take rest p
  have h2 := cut_drop rest p
  have l : (List.take p rest.cps.toList ++ List.drop p rest.cps.toList).length = rest.length := by rw [List.take_append_drop, len_tl]
  rw [List.length_append] at l
  refine ⟨?_, ?_, ?_⟩
  · rw [app_len, app_len]
    show 1 ≤ _ + 1 + _
    omega
  · rw [app_len, app_len, len_tl (cutS rest none _), len_tl (cutS rest _ none), h1, h2]
    show _ + 1 + _ ≤ 12
    omega
  · refine Al.app (Al.app (fun d hd => ?_) (one_al hc).2) (fun d hd => ?_)
    · rw [h1] at hd
      exact hr d (List.mem_of_mem_take hd)
    · rw [h2] at hd
      exact hr d (List.mem_of_mem_drop hd)
theorem ok_names {f : Addr} {fd : FuncData} {k : Nat} (F : Fun K "_law_names" "_law_names" sNames f fd) (mi : mg "int" = none) (mr : mg "range" = none) : FnOk P w K mg base CX0 (k + 1) f fd ["number", "other", "many"] spNames := by
  refine F.ok scNames (fun vs H Q E h => ?_) (fun cdv A outer s H vs Q E hr h => ?_)
  · obtain ⟨x, y, m, rfl, _⟩ := h
    rfl
  · obtain ⟨x, y, m, rfl, ⟨hx0, hx1⟩, ⟨hy0, hy1⟩, hm, q⟩ := h
    refine ⟨_, pss_cons (ps_set (i := 3) scNames.nd rfl (.inr rfl) pe_str)
      (pss_cons (ps_set (i := 4) scNames.nd rfl (.inl rfl) (pe_ix ix_list (pe_lst (pa_cons pe_int (pa_cons pe_int (pa_cons pe_int (pa_cons pe_int pa_nil))))) (pe_op op_mod (pe_callTy call_int1 (by rfl) mi (by decide +kernel) (pa_cons (pv 0) pa_nil)) pe_int) (fun _ _ => rfl)))
      (pss_cons (ps_set (i := 5) scNames.nd rfl (.inr rfl) (pe_bm PySem.F.plainAttrs_str PySem.F.slot_str_join PySem.F.type_str_join mt_join pe_str (pa_cons
        (pe_lc (own := [("k", 7)]) (g := gName 7) (tt := tYes) rfl scNames.nd (pi_range1 rfl mr (pa_cons (pv 4) pa_nil)) (blkOk_by (N := ["number", "other", "many", "chars", "size", "rest", "place", "k"]) (sc := defScope sNames) (by decide +kernel)) (fun _ _ _ _ _ => pg_name (i := 7) scNames.nd rfl (Or.inl rfl)) (fun _ _ _ _ _ => pts_nil)
          (fun _ _ _ _ _ => pe_ix ix_str (pv 3) (pe_op op_mod (pe_callTy call_int1 (by rfl) mi (by decide +kernel) (pa_cons (pe_op op_add (pe_op op_add (pv 1) (pe_op op_mul (pe_op op_mul pe_int (pv 7)) (pv 7))) (pe_op op_mul (pv 0) (pv 7))) pa_nil)) pe_int) (fun _ _ => rfl))) pa_nil)))
      (pss_cons (ps_set (i := 6) scNames.nd rfl (.inr rfl) (pe_op op_mod (pe_callTy call_int1 (by rfl) mi (by decide +kernel) (pa_cons (pe_op op_add (pe_op op_fdiv (pv 0) pe_int) (pv 1)) pa_nil)) (pe_op op_add (pv 4) pe_int)))
      (pss_one (ps_ret (pe_lc (own := [("k", 7)]) (g := gName 7) (tt := tYes) rfl scNames.nd (pi_range1 rfl mr (pa_cons (pv 2) pa_nil)) (blkOk_by (N := ["number", "other", "many", "chars", "size", "rest", "place", "k"]) (sc := defScope sNames) (by decide +kernel)) (fun _ _ _ _ _ => pg_name (i := 7) scNames.nd rfl (Or.inl rfl)) (fun _ _ _ _ _ => pts_nil)
          (fun _ _ _ _ _ => pe_op op_add_str (pe_op op_add_str (pe_slice sl_str (pv 5) po_none (po_some (pv 6))) (pe_ix ix_str (pv 3) (pe_op op_mod (pe_callTy call_int1 (by rfl) mi (by decide +kernel) (pa_cons (pe_op op_add (pv 1) (pe_op op_mul pe_int (pv 7))) pa_nil)) pe_int) (fun _ _ => rfl))) (pe_slice sl_str (pv 5) (po_some (pv 6)) po_none)))))))), ?_⟩
    have b64 : (2 : Int) ^ 64 = 18446744073709551616 := by decide
    -- size
    refine ⟨by show 4 ≤ sizeLine; decide, fun l nl => ?_⟩
    have s1 : Same H (upd H l (.lst [.int 0, .int 1, .int 3, .int 11])) := same_upd nl
    refine ⟨_, rfl, .inl ⟨_, rfl, _, _, rfl, rfl, (by show (0 : Int) < 4; decide), ?_⟩⟩
    obtain ⟨sz, hsz, hat⟩ : ∃ sz : Nat, sz ≤ 11 ∧ atI ([.int 0, .int 1, .int 3, .int 11] : List V) (x % 4) = some (.int sz) := by
      have h0 := Int.emod_nonneg x (show (4 : Int) ≠ 0 by decide)
      have h1 := Int.emod_lt_of_pos x (show (0 : Int) < 4 by decide)
      have : x % 4 = 0 ∨ x % 4 = 1 ∨ x % 4 = 2 ∨ x % 4 = 3 := by omega
      rcases this with e | e | e | e <;> rw [e]
      · exact ⟨0, by decide, rfl⟩
      · exact ⟨1, by decide, rfl⟩
      · exact ⟨3, by decide, rfl⟩
      · exact ⟨11, by decide, rfl⟩
    refine ⟨l, _, _, _, rfl, rfl, sq upd_same, hat, ?_⟩
    -- rest = ''.join([..])
    refine ⟨rfl, _, rfl, (sz : Int), rfl, by omega, by omega, fun D hD => ?_⟩
    generalize hH1 : upd H l (.lst [.int 0, .int 1, .int 3, .int 11]) = H1 at *
    refine lc_range (lo := 0) (n := (sz : Int).toNat) (fun i H2 => ∃ zs : List Str, Same H1 H2 ∧ H2 D = some (.lst (zs.map V.str)) ∧ zs.length = i ∧ ∀ z ∈ zs, z.length = 1 ∧ Al z)
      ⟨[], same_upd hD, upd_same, rfl, fun z hz => by cases hz⟩ ?_ ?_
    · rintro i H2 hi ⟨zs, sm, hz, hl, ha⟩
      refine ⟨rfl, ?_⟩
      refine yesT ?_
      refine ⟨_, rfl, _, rfl, _, rfl, _, _, rfl, rfl, .inl ⟨by decide, by decide⟩, _, rfl, _, _, rfl, rfl, .inr ⟨by omega, by omega⟩, _, _, rfl, rfl, _, rfl, _, rfl, _, _, rfl, rfl, .inl ⟨by omega, by omega⟩, _, _, rfl, rfl, .inl ⟨_, rfl, _, _, rfl, rfl, (by show (0 : Int) < 36; decide), ?_⟩⟩
      obtain ⟨c, hc, e⟩ := at_ch _ (Int.emod_nonneg (y + 7 * (0 + (i : Int)) * (0 + (i : Int)) + x * (0 + (i : Int))) (show (36 : Int) ≠ 0 by decide)) (Int.emod_lt_of_pos _ (by decide))
      refine ⟨_, _, c, rfl, rfl, by decide, e, _, hz, by rw [List.length_map]; exact szlt (by omega), zs ++ [⟨#[c]⟩], same_mut sm hD, by rw [upd_same, map_snoc], by rw [List.length_append, hl]; rfl, fun z hz => ?_⟩
      rcases List.mem_append.mp hz with h | h
      · exact ha z h
      · rw [List.mem_singleton.mp h]
        exact one_al hc
    · rintro H2 ⟨zs, sm, hz, hl, ha⟩
      have jk := join_ok zs ha
      have hl' : zs.length ≤ 11 := by omega
      have hsum : (zs.map (·.length)).sum + zs.length * (0 : Nat) ≤ 16777216 := by
        have : ∀ ws : List Str, (∀ z ∈ ws, z.length = 1 ∧ Al z) → (ws.map (·.length)).sum = ws.length := by
          intro ws
          induction ws with
          | nil => intro _; rfl
          | cons z r ih =>
            intro h
            rw [List.map_cons, List.sum_cons, (h z List.mem_cons_self).1, ih fun u hu => h u (List.mem_cons_of_mem _ hu), List.length_cons]
            omega
        rw [this zs ha]
        omega
      refine ⟨_, D, zs, rfl, rfl, .inl (sq hz), hsum, ?_⟩
      rw [TL.join_eq]
      generalize Str.join "" zs = rest at jk
      obtain ⟨jl, ja⟩ := jk
      have hrl : rest.length ≤ 11 := by omega
      -- place
      refine ⟨_, rfl, _, _, rfl, rfl, ⟨by decide, by decide⟩, _, rfl, _, _, rfl, rfl, .inl ⟨_, rfl, _, rfl, _, _, rfl, rfl, _, _, rfl, rfl, (by omega), ?_⟩⟩
      have hp : 0 ≤ (x / 4 + y) % ((sz : Int) + 1) := Int.emod_nonneg _ (by omega)
      -- the names
      refine ⟨_, rfl, (m : Int), rfl, by omega, by omega, fun D2 hD2 => ?_⟩
      refine lc_range (lo := 0) (n := (m : Int).toNat) (fun i H3 => ∃ zs : List Str, Same H2 H3 ∧ H3 D2 = some (.lst (zs.map V.str)) ∧ zs.length = i ∧ ∀ z ∈ zs, Nm z)
        ⟨[], same_upd hD2, upd_same, rfl, fun z hz => by cases hz⟩ ?_ ?_
      · rintro i H3 hi ⟨ws, sm3, hw, hwl, hwa⟩
        refine ⟨rfl, ?_⟩
        refine yesT ?_
        obtain ⟨c, hc, e⟩ := at_ch _ (Int.emod_nonneg (y + 5 * (0 + (i : Int))) (show (36 : Int) ≠ 0 by decide)) (Int.emod_lt_of_pos _ (by decide))
        have lt := cutS_length rest none (some ((x / 4 + y) % ((sz : Int) + 1)))
        have ld := cutS_length rest (some ((x / 4 + y) % ((sz : Int) + 1))) none
        refine ⟨_, rfl, _, rfl, _, rfl, rest, rfl, szl (by omega), _, rfl, _, rfl, _, rfl, _, _, rfl, rfl, .inl ⟨by decide, by decide⟩, _, _, rfl, rfl, .inl ⟨_, rfl, _, _, rfl, rfl, (by show (0 : Int) < 36; decide), _, _, c, rfl, rfl, by decide, e, ?_⟩⟩
        refine ⟨_, _, rfl, rfl, szl (by show _ + 1 ≤ 1000000; omega), _, rfl, _, rfl, _, rfl, rest, rfl, szl (by omega), _, _, rfl, rfl, szl (by rw [app_len]; show _ + 1 + _ ≤ 1000000; omega), ?_⟩
        refine ⟨_, hw, by rw [List.length_map]; exact szlt (by omega), ws ++ [_], same_mut sm3 hD2, by rw [upd_same, map_snoc], by rw [List.length_append, hwl]; rfl, fun z hz => ?_⟩
        rcases List.mem_append.mp hz with h | h
        · exact hwa z h
        · rw [List.mem_singleton.mp h]
          exact name_of hp ja hrl hc
      · rintro H3 ⟨ws, sm3, hw, hwl, hwa⟩
        have sA : Same H H3 := s1.trans (sm.trans sm3)
        exact q H3 D2 ws sA ((s1.trans sm).free hD2) hw (by omega) hwa
/-! ### plays -/
/-- the moves of a play stand in the heap, as tuples of two texts -/
def PlayV (H : Hp) : List V → List (Str × Str) → Prop
  | [], [] => True
  | v :: xs, (k, n) :: ps => (∃ t, v = .ref t ∧ H t = some (.tup [.str k, .str n])) ∧ PlayV H xs ps
  | _, _ => False
theorem PlayV.mono {H H' : Hp} (s : Same H H') : ∀ {xs : List V} {ps : List (Str × Str)}, PlayV H xs ps → PlayV H' xs ps
  | [], [], _ => True.intro
  | v :: xs, (k, n) :: ps, ⟨⟨t, e, h⟩, r⟩ => ⟨⟨t, e, s _ _ h⟩, PlayV.mono s r⟩
theorem PlayV.keep {H H' : Hp} (s : ∀ b k n, H b = some (.tup [.str k, .str n]) → H' b = some (.tup [.str k, .str n])) : ∀ {xs : List V} {ps : List (Str × Str)}, PlayV H xs ps → PlayV H' xs ps
  | [], [], _ => True.intro
  | v :: xs, (k, n) :: ps, ⟨⟨t, e, h⟩, r⟩ => ⟨⟨t, e, s _ _ _ h⟩, PlayV.keep s r⟩
theorem PlayV.len {H : Hp} : ∀ {xs : List V} {ps : List (Str × Str)}, PlayV H xs ps → xs.length = ps.length
  | [], [], _ => rfl
  | v :: xs, (k, n) :: ps, ⟨_, r⟩ => congrArg (· + 1) r.len
theorem PlayV.snoc {H : Hp} {k n : Str} {t : Addr} (h : H t = some (.tup [.str k, .str n])) : ∀ {xs : List V} {ps : List (Str × Str)}, PlayV H xs ps → PlayV H (xs ++ [.ref t]) (ps ++ [(k, n)])
  | [], [], _ => ⟨⟨t, rfl, h⟩, True.intro⟩
  | v :: xs, (k, n) :: ps, ⟨e, r⟩ => ⟨e, r.snoc h⟩
theorem PlayV.at {H : Hp} : ∀ {xs : List V} {ps : List (Str × Str)} {i : Nat} {v : V}, PlayV H xs ps → xs[i]? = some v → ∃ t k n, v = .ref t ∧ H t = some (.tup [.str k, .str n]) ∧ ps[i]? = some (k, n)
  | [], [], _, _, _, h => by simp at h
  | v :: xs, (k, n) :: ps, 0, u, ⟨⟨t, e, h⟩, _⟩, hi => by
    have e2 : v = u := Option.some.inj hi
    exact ⟨t, k, n, by rw [← e2]; exact e, h, rfl⟩
  | v :: xs, (k, n) :: ps, i + 1, u, ⟨_, r⟩, hi => PlayV.at (i := i) r hi
def mvD (p : Str × Str) : PyData := .tuple [.str p.1, .str p.2]
theorem PlayV.dp {K : PySem.W.Frag} {H : Hp} : ∀ {xs : List V} {ps : List (Str × Str)}, PlayV H xs ps → DpAll K H xs (ps.map mvD)
  | [], [], _ => .nil
  | v :: xs, (k, n) :: ps, ⟨⟨t, e, h⟩, r⟩ => by
    subst e
    exact .cons (.tup (st h) (.cons (.str k) (.cons (.str n) .nil))) r.dp
theorem strs_dp {K : PySem.W.Frag} {H : Hp} : ∀ zs : List Str, DpAll K H (zs.map V.str) (zs.map PyData.str)
  | [] => .nil
  | z :: zs => .cons (.str z) (strs_dp zs)
theorem strs_lay : ∀ zs : List Str, (∀ z ∈ zs, Al z) → PyData.canLayAll0 (zs.map PyData.str) = true
  | [], _ => rfl
  | z :: zs, h => by
    show (PyData.strOk z && PyData.canLayAll0 (zs.map PyData.str)) = true
    rw [(h z List.mem_cons_self).ok, strs_lay zs fun y hy => h y (List.mem_cons_of_mem _ hy)]
    rfl
theorem strs_depth : ∀ zs : List Str, PyData.depthAll (zs.map PyData.str) = 0
  | [] => rfl
  | z :: zs => by
    show max 0 (PyData.depthAll (zs.map PyData.str)) = 0
    rw [strs_depth zs]
    rfl
theorem strs_shaped (zs : List Str) (h : ∀ z ∈ zs, Al z) : SeqAt.shaped (.list (zs.map PyData.str)) = true := by
  show (PyData.canLayAll0 (zs.map PyData.str) && decide (PyData.depthAll (zs.map PyData.str) + 1 ≤ 64)) = true
  rw [strs_lay zs h, strs_depth zs]
  rfl
def okK (k : Str) : Prop := PyData.strOk k = true
theorem ok_hand : okK ("hand" : Str) := by
  unfold okK
  decide +kernel
theorem ok_relay : okK ("relay" : Str) := by
  unfold okK
  decide +kernel
theorem play_lay : ∀ ps : List (Str × Str), (∀ p ∈ ps, okK p.1 ∧ Al p.2) → PyData.canLayAll0 (ps.map mvD) = true
  | [], _ => rfl
  | p :: ps, h => by
    show ((PyData.strOk p.1 && (PyData.strOk p.2 && true)) && PyData.canLayAll0 (ps.map mvD)) = true
    rw [(h p List.mem_cons_self).1, (h p List.mem_cons_self).2.ok, play_lay ps fun y hy => h y (List.mem_cons_of_mem _ hy)]
    rfl
theorem play_depth : ∀ ps : List (Str × Str), PyData.depthAll (ps.map mvD) ≤ 1
  | [] => Nat.zero_le _
  | p :: ps => by
    show max 1 (PyData.depthAll (ps.map mvD)) ≤ 1
    have := play_depth ps
    omega
theorem play_shaped (ps : List (Str × Str)) (h : ∀ p ∈ ps, okK p.1 ∧ Al p.2) : SeqAt.shaped (.list (ps.map mvD)) = true := by
  show (PyData.canLayAll0 (ps.map mvD) && decide (PyData.depthAll (ps.map mvD) + 1 ≤ 64)) = true
  rw [play_lay ps h]
  have := play_depth ps
  rw [Bool.true_and, decide_eq_true_eq]
  omega
theorem shaped_refl {d : PyData} (h : SeqAt.shaped d = true) : PyData.eqv d d = true := SeqAt.eqv_refl d (SeqAt.canLay_of_shaped h)
/-! ### switching_of -/
def hands (ps : List (Str × Str)) : List Str := (ps.filter fun p => decide (p.1 = ("hand" : Str))).map (·.2)
theorem hands_snoc_t (ps : List (Str × Str)) (n : Str) : hands (ps ++ [(("hand" : Str), n)]) = hands ps ++ [n] := by
  unfold hands
  rw [List.filter_append, List.map_append]
  rfl
theorem hands_snoc_f (ps : List (Str × Str)) {k : Str} (n : Str) (h : ¬ k = ("hand" : Str)) : hands (ps ++ [(k, n)]) = hands ps := by
  unfold hands
  rw [List.filter_append, List.map_append]
  show _ ++ (List.filter (fun p : Str × Str => decide (p.1 = ("hand" : Str))) [(k, n)]).map (·.2) = _
  rw [List.filter_cons_of_neg (by simpa using h)]
  exact List.append_nil _
theorem hands_mem {ps : List (Str × Str)} {z : Str} (h : z ∈ hands ps) : ∃ p ∈ ps, p.2 = z := by
  unfold hands at h
  obtain ⟨p, hp, e⟩ := List.mem_map.mp h
  exact ⟨p, (List.mem_filter.mp hp).1, e⟩
theorem hands_len (ps : List (Str × Str)) : (hands ps).length ≤ ps.length := by
  unfold hands
  rw [List.length_map]
  exact List.length_filter_le _ _
def spSw (K : PySem.W.Frag) : Sp := fun vs H Q _ => ∃ (a : Addr) (xs : List V) (ps : List (Str × Str)), vs = [.ref a] ∧ H a = some (.lst xs) ∧ PlayV H xs ps ∧ ps.length ≤ 1000 ∧
  ∀ H' p, Same H H' → H p = none → H' p = some (.lst ((hands ps).map V.str)) → Q (.ref p) H'
theorem scSw : FnScope ["play", "kind", "name"] ["play"] (defScope sSw) := ⟨rfl, rfl, rfl, by decide +kernel, rfl, by decide +kernel, by decide +kernel⟩
theorem ok_sw {f : Addr} {fd : FuncData} {k : Nat} (F : Fun K "switching_of" "switching_of" sSw f fd) : FnOk P w K mg base CX0 (k + 1) f fd ["play"] (spSw K) := by
  refine F.ok scSw (fun vs H Q E h => ?_) (fun cdv A outer s H vs Q E hr h => ?_)
  · obtain ⟨a, xs, ps, rfl, _⟩ := h
    rfl
  · obtain ⟨a, xs, ps, rfl, ha, hP, hl, q⟩ := h
    refine ⟨_, pss_one (ps_ret (pe_lc (own := [("kind", 1), ("name", 2)]) (g := gTup K 2 (gCons (gName 1) (gCons (gName 2) gNil))) rfl scSw.nd (pi_list (pv 0)) (blkOk_by (N := ["play", "kind", "name"]) (sc := defScope sSw) (by decide +kernel))
      (fun _ _ _ _ _ => pg_tup rfl (pgs_cons (pg_name (i := 1) scSw.nd rfl (Or.inl rfl)) (pgs_cons (pg_name (i := 2) scSw.nd rfl (Or.inl rfl)) pgs_nil)))
      (fun _ _ _ _ _ => pts_one (pt_cmpR op_eq (pv 1) pe_str (nomark _))) (fun _ _ _ _ _ => pv 2))), ?_⟩
    refine ⟨_, rfl, a, rfl, ⟨_, sq ha⟩, fun D hD => ?_⟩
    refine lc_list (K := K) (a := a) (xs := xs) (fun i H2 => Same H H2 ∧ H2 D = some (.lst ((hands (ps.take i)).map V.str)))
      ⟨same_upd hD, upd_same⟩ (fun i H2 _ h => sq (h.1 _ _ ha)) ?_ ?_
    · rintro i v H2 hi ⟨sm, hd⟩
      obtain ⟨t, kd, nm, rfl, ht, hp⟩ := hP.at hi
      have hs : ps.take (i + 1) = ps.take i ++ [(kd, nm)] := by
        rw [List.take_add_one, hp]
        rfl
      refine ⟨t, _, rfl, st (sm _ _ ht), rfl, _, _, rfl, _, _, rfl, rfl, rfl, _, rfl, rfl, _, rfl, ?_⟩
      refine ite2 (fun e => ?_) (fun e => ?_)
      · have ek : kd = ("hand" : Str) := V.str.inj (of_decide_eq_true e)
        refine ⟨_, rfl, _, hd, ?_, same_mut sm hD, ?_⟩
        · rw [List.length_map]
          have := hands_len (ps.take i)
          rw [List.length_take] at this
          exact szlt (by omega)
        · rw [upd_same, hs, ek, hands_snoc_t, map_snoc]
      · have ek : ¬ kd = ("hand" : Str) := fun z => of_decide_eq_false (Bool.eq_false_iff.mpr e) (congrArg V.str z)
        refine ⟨sm, ?_⟩
        rw [hs, hands_snoc_f _ _ ek]
        exact hd
    · rintro H2 ⟨sm, hd⟩
      rw [hP.len, List.take_length] at hd
      exact q H2 D sm hD hd
/-! ### _law_are_strings -/
theorem bt_isi : bootBuiltins "isinstance" = some (.builtin "isinstance") := by decide +kernel
theorem bt_str : bootBuiltins "str" = some (.type "str") := by decide +kernel
theorem bt_list : bootBuiltins "list" = some (.type "list") := by decide +kernel
def spAre (K : PySem.W.Frag) : Sp := fun vs H Q _ => ∃ (a b : Addr) (zs : List Str), vs = [.ref a, .ref b] ∧ H a = some (.lst (zs.map V.str)) ∧ H b = some (.lst (zs.map V.str)) ∧ (∀ z ∈ zs, Al z) ∧ zs.length ≤ 1000 ∧
  ∀ H', Same H H' → Q (.bl true) H'
theorem scAre : FnScope ["actual", "expected", "word"] ["actual", "expected"] (defScope sAre) := ⟨rfl, rfl, rfl, by decide +kernel, rfl, by decide +kernel, by decide +kernel⟩
theorem ok_are {f : Addr} {fd : FuncData} {k : Nat} (F : Fun K "_law_are_strings" "_law_are_strings" sAre f fd) (mi : mg "isinstance" = none) (ml : mg "list" = none) (ms : mg "str" = none) (mal : mg "all" = none) : FnOk P w K mg base CX0 (k + 1) f fd ["actual", "expected"] (spAre K) := by
  refine F.ok scAre (fun vs H Q E h => ?_) (fun cdv A outer s H vs Q E hr h => ?_)
  · obtain ⟨a, b, zs, rfl, _⟩ := h
    rfl
  · obtain ⟨a, b, zs, rfl, ha, hb, hz, hl, q⟩ := h
    refine ⟨_, pss_cons (ps_if (PW.pt (pw_or (pt_not (pt_val (pe_callB call_isi (by rfl) mi (by decide +kernel) (pa_cons (pv 0) (pa_cons (pe_bltn (v := .ty "list") (by rfl) ml (by decide +kernel) rfl) pa_nil))))) (pw_or1 (pt_cmpR (op_neD hr.units) (pv 0) (pv 1) (nomark _)))))
        (pss_one (ps_ret pe_bl)) pss_nil)
      (pss_one (ps_ret (pe_callB (cr_all rfl) (by rfl) mal (by decide +kernel) (pa_cons (pe_lc (own := [("word", 2)]) (g := gName 2) (tt := tYes) (te := tCB (rIsi K) (tCons (tVar 2) (tCons (tC (.ty "str")) tNil))) rfl scAre.nd (pi_list (pv 0)) (blkOk_by (N := ["actual", "expected", "word"]) (sc := defScope sAre) (by decide +kernel)) (fun _ _ _ _ _ => pg_name (i := 2) scAre.nd rfl (Or.inl rfl)) (fun _ _ _ _ _ => pts_nil)
        (fun _ _ _ _ _ => pe_callB call_isi (by rfl) mi bt_isi (pa_cons (pv 2) (pa_cons (pe_bltn (v := .ty "str") (by rfl) ms bt_str rfl) pa_nil)))) pa_nil)))), ?_⟩
    have hsh := strs_shaped zs hz
    refine ⟨_, rfl, _, _, .type "list", .type "list", true, rfl, .ty "list", .base (.lst ha), kit_ty (by decide +kernel), _, rfl, ?_⟩
    refine iteF ?_
    refine ⟨_, rfl, _, rfl, .list (zs.map PyData.str), .list (zs.map PyData.str), .lst (sq ha) (strs_dp zs), .lst (sq hb) (strs_dp zs), hsh, hsh, _, rfl, ?_⟩
    rw [shaped_refl hsh]
    refine iteF ?_
    refine ⟨_, rfl, a, rfl, ⟨_, sq ha⟩, fun D hD => ?_⟩
    refine lc_list (K := K) (a := a) (xs := zs.map V.str) (fun i H2 => Same H H2 ∧ H2 D = some (.lst ((List.replicate i true).map V.bl)))
      ⟨same_upd hD, upd_same⟩ (fun i H2 _ h => sq (h.1 _ _ ha)) ?_ ?_
    · rintro i v H2 hi ⟨sm, hd⟩
      have hil : i < (zs.map V.str).length := (List.getElem?_eq_some_iff.mp hi).1
      rw [List.length_map] at hil
      obtain ⟨z, rfl⟩ : ∃ z, v = V.str z := by
        rw [List.getElem?_map, List.getElem?_eq_getElem hil] at hi
        exact ⟨_, (Option.some.inj hi).symm⟩
      refine ⟨rfl, ?_⟩
      refine yesT ?_
      refine ⟨_, rfl, _, _, .type "str", .type "str", true, rfl, .ty "str", .base (.str z), kit_ty (by decide +kernel), _, hd, ?_, same_mut sm hD, ?_⟩
      · rw [List.length_map, List.length_replicate]
        exact szlt (by omega)
      · rw [upd_same, ← map_snoc, ← List.replicate_succ']
    · rintro H2 ⟨sm, hd⟩
      refine ⟨D, List.replicate (zs.map V.str).length true, rfl, sq hd, ?_⟩
      rw [show (List.replicate (zs.map V.str).length true).all id = true by simp]
      exact q H2 sm
/-! ### law -/
def spLaw (K : PySem.W.Frag) : Sp := fun vs H Q _ => ∃ (a : Addr) (ns : List Int), vs = [.ref a] ∧ SqL K H a (ns.map V.int) ∧ ns.length ≤ 63 ∧ ∀ H', Q (.bl true) H'
theorem scLaw : FnScope ["script", "numbers", "play", "expected", "k", "names", "name", "handed", "turn", "actual"] ["script"] (defScope sLaw) := ⟨rfl, rfl, rfl, by decide +kernel, rfl, by decide +kernel, by decide +kernel⟩
structure Txt (mg : Str → Option Value) : Prop where
  abs : mg "abs" = none
  int : mg "int" = none
  range : mg "range" = none
  max : mg "max" = none
  len : mg "len" = none
  isi : mg "isinstance" = none
  list : mg "list" = none
  str : mg "str" = none
  all : mg "all" = none
theorem two_of {α : Type} {zs : List α} (h : zs.length = 2) (i : Int) (h0 : 0 ≤ i) (h1 : i < 2) (f : α → V) : ∃ z ∈ zs, atI (zs.map f) i = some (f z) := by
  obtain ⟨v, hv, _, e⟩ := at_in (zs.map f) i h0 (by rw [List.length_map, h]; exact h1)
  obtain ⟨z, hz, rfl⟩ := List.mem_map.mp hv
  exact ⟨z, hz, e⟩
theorem ok_law {f fR fN fM fA fS : Addr} {fd fdR fdN fdM fdA fdS : FuncData} (F : Fun K "law" "law" sLaw f fd) (T : Txt mg)
    (FR : Fun K "_law_row" "_law_row" sRow fR fdR) (bR : Binds K fdR ["cell", "many"] []) (gR : mg "_law_row" = some (.ref fR))
    (FN : Fun K "_law_numbers" "_law_numbers" sNumbers fN fdN) (bN : Binds K fdN ["script", "many"] []) (gN : mg "_law_numbers" = some (.ref fN))
    (FM : Fun K "_law_names" "_law_names" sNames fM fdM) (bM : Binds K fdM ["number", "other", "many"] []) (gM : mg "_law_names" = some (.ref fM))
    (FA : Fun K "_law_are_strings" "_law_are_strings" sAre fA fdA) (bA : Binds K fdA ["actual", "expected"] []) (gA : mg "_law_are_strings" = some (.ref fA))
    (FS : Fun K "switching_of" "switching_of" sSw fS fdS) (bS : Binds K fdS ["play"] []) (gS : mg "switching_of" = some (.ref fS)) : FnOk P w K mg base CX0 3 f fd ["script"] (spLaw K) := by
  have GN : FnOk P w K mg base CX0 2 fN fdN ["script", "many"] (spNumbers K) := ok_numbers FN FR bR gR T.abs T.int T.range T.max T.len
  have GM : FnOk P w K mg base CX0 1 fM fdM ["number", "other", "many"] spNames := ok_names FM T.int T.range
  have GA : FnOk P w K mg base CX0 1 fA fdA ["actual", "expected"] (spAre K) := ok_are FA T.isi T.list T.str T.all
  have GS : FnOk P w K mg base CX0 1 fS fdS ["play"] (spSw K) := ok_sw FS
  refine F.ok scLaw (fun vs H Q E h => ?_) (fun cdv A outer s H vs Q E hr h => ?_)
  · obtain ⟨a, ns, rfl, _⟩ := h
    rfl
  · obtain ⟨a, cs, rfl, hS, hlen, q⟩ := h
    have hr1 : Room 1 _ := hr.mono (by decide)
    refine ⟨_, pss_cons (ps_set (i := 1) scLaw.nd rfl (.inl rfl) (pe_call GN hr (by rfl) gN FN.kp bN .nil pass0 (pa_cons (pv 0) (pa_cons pe_int pa_nil))))
      (pss_cons (ps_set (i := 2) scLaw.nd rfl (.inl rfl) (pe_lst pa_nil))
      (pss_cons (ps_set (i := 3) scLaw.nd rfl (.inl rfl) (pe_lst pa_nil))
      (pss_cons (ps_for PassesOwn.never rfl (pi_range1 rfl T.range (pa_cons (pe_op op_mod (pe_callTy call_int1 (by rfl) T.int (by decide +kernel) (pa_cons (pe_ix ix_list (pv 1) pe_int (fun _ _ => rfl)) pa_nil)) pe_int) pa_nil)) (pg_name (i := 4) scLaw.nd rfl (.inl rfl))
        (pss_cons (ps_set (i := 5) scLaw.nd rfl (.inl rfl) (pe_call GM hr1 (by rfl) gM FM.kp bM .nil pass0 (pa_cons (pe_ix ix_list (pv 1) (pe_op op_add pe_int (pe_op op_mul pe_int (pv 4))) (fun _ _ => rfl)) (pa_cons (pe_ix ix_list (pv 1) (pe_op op_add pe_int (pe_op op_mul pe_int (pv 4))) (fun _ _ => rfl)) (pa_cons pe_int pa_nil)))))
        (pss_cons (ps_set (i := 6) scLaw.nd rfl (.inl rfl) (pe_ix ix_list (pv 5) (pe_op op_mod (pe_callTy call_int1 (by rfl) T.int (by decide +kernel) (pa_cons (pe_op op_fdiv (pe_ix ix_list (pv 1) (pe_op op_add pe_int (pe_op op_mul pe_int (pv 4))) (fun _ _ => rfl)) pe_int) pa_nil)) pe_int) (fun _ _ => rfl)))
        (pss_one (ps_if (pt_cmpR op_eq (pe_op op_mod (pe_callTy call_int1 (by rfl) T.int (by decide +kernel) (pa_cons (pe_op op_fdiv (pe_ix ix_list (pv 1) (pe_op op_add pe_int (pe_op op_mul pe_int (pv 4))) (fun _ _ => rfl)) pe_int) pa_nil)) pe_int) pe_int (nomark _))
          (pss_cons (ps_expr (pe_bm PySem.F.plainAttrs_list PySem.F.slot_list_append PySem.F.type_list_append mt_append (pv 2) (pa_cons (pe_tup (pa_cons pe_str (pa_cons (pv 6) pa_nil))) pa_nil)))
          (pss_one (ps_expr (pe_bm PySem.F.plainAttrs_list PySem.F.slot_list_append PySem.F.type_list_append mt_append (pv 3) (pa_cons (pv 6) pa_nil)))))
          (pss_one (ps_expr (pe_bm PySem.F.plainAttrs_list PySem.F.slot_list_append PySem.F.type_list_append mt_append (pv 2) (pa_cons (pe_tup (pa_cons pe_str (pa_cons (pv 6) pa_nil))) pa_nil)))))))))
      (pss_cons (ps_set (i := 7) scLaw.nd rfl (.inl rfl) (pe_callTy call_list_of (by rfl) T.list (by decide +kernel) (pa_cons (pv 2) pa_nil)))
      (pss_cons (ps_for PassesOwn.never rfl (pi_range1 rfl T.range (pa_cons pe_int pa_nil)) (pg_name (i := 8) scLaw.nd rfl (.inl rfl))
        (pss_cons (ps_set (i := 9) scLaw.nd rfl (.inl rfl) (pe_call GS hr1 (by rfl) gS FS.kp bS .nil pass0 (pa_cons (pv 7) pa_nil)))
        (pss_cons (ps_if (PW.pt (pw_or (pt_not (pt_val (pe_call GA hr1 (by rfl) gA FA.kp bA .nil pass0 (pa_cons (pv 9) (pa_cons (pv 3) pa_nil))))) (pw_or1 (pt_cmpR (op_neD hr.units) (pv 7) (pv 2) (nomark _)))))
            (pss_one (ps_ret pe_bl)) pss_nil)
        (pss_one (ps_expr (pe_bm PySem.F.plainAttrs_list PySem.F.slot_list_append PySem.F.type_list_append mt_append (pv 9) (pa_cons pe_str pa_nil)))))))
      (pss_one (ps_ret pe_bl))))))), ?_⟩
    -- numbers
    refine ⟨_, rfl, a, cs, 130, rfl, hS, hlen, by decide, fun H1 o1 ns s1 n1 h1 l1 hn => ?_⟩
    refine ⟨Nat.zero_le _, fun o2 n2 => ?_⟩
    refine ⟨Nat.zero_le _, fun o3 n3 => ?_⟩
    have d12 : o1 ≠ o2 := ne_of_none h1 n2
    have n3' : H1 o3 = none := (same_upd n2).free n3
    have d13 : o1 ≠ o3 := ne_of_none h1 n3'
    have d23 : o2 ≠ o3 := ne_of_none upd_same n3
    obtain ⟨x0, x00, x01, e0⟩ := at_num hn 0 (by decide) (by omega)
    refine ⟨_, rfl, o1, _, 0, .int x0, rfl, rfl, sq (by rw [upd_ne d13, upd_ne d12]; exact h1), e0, .inl ⟨_, rfl, _, _, rfl, rfl, (by show (0 : Int) < 41; decide), x0 % 41, rfl, by omega, by omega, ?_⟩⟩
    refine for_range (lo := 0) (n := (x0 % 41).toNat) (fun i σ H2 => ∃ (xs : List V) (ps : List (Str × Str)) (z4 z5 z6 : Option V), σ = [some (.ref a), some (.ref o1), some (.ref o2), some (.ref o3), z4, z5, z6, none, none, none] ∧ Same H1 H2 ∧ H2 o2 = some (.lst xs) ∧ PlayV H2 xs ps ∧ H2 o3 = some (.lst ((hands ps).map V.str)) ∧ ps.length = i ∧ ∀ p ∈ ps, okK p.1 ∧ Al p.2)
      ⟨[], [], none, none, none, rfl, same_mut (same_upd n2) n3', by rw [upd_ne d23]; exact upd_same, True.intro, upd_same, rfl, fun p hp => by cases hp⟩ ?_ ?_
    · rintro i σ H2 hi ⟨xs, ps, z4, z5, z6, rfl, sm, g2, gP, g3, gl, ga⟩
      have hi' : i < 41 := by omega
      obtain ⟨u, hu0, hu1, eu⟩ := at_num hn (2 + 2 * (0 + (i : Int))) (by omega) (by omega)
      obtain ⟨v, hv0, hv1, ev⟩ := at_num hn (3 + 2 * (0 + (i : Int))) (by omega) (by omega)
      refine ⟨_, rfl, _, rfl, _, _, rfl, rfl, .inl ⟨by decide, by decide⟩, _, _, rfl, rfl, o1, _, _, _, rfl, rfl, sq (sm _ _ h1), eu, ?_⟩
      refine ⟨_, rfl, _, rfl, _, _, rfl, rfl, .inl ⟨by decide, by decide⟩, _, _, rfl, rfl, o1, _, _, _, rfl, rfl, sq (sm _ _ h1), ev, ?_⟩
      refine ⟨u, v, 2, rfl, ⟨hu0, hu1⟩, ⟨hv0, hv1⟩, by decide, fun H3 o4 zs s3 n4 h4 l4 hz => ?_⟩
      have sm3 := sm.trans s3
      obtain ⟨z, hzm, ez⟩ := two_of l4 (v / 3 % 2) (by omega) (by omega) V.str
      have hzn := (hz z hzm).2.2
      refine ⟨_, rfl, _, rfl, _, rfl, _, _, rfl, rfl, .inl ⟨by decide, by decide⟩, _, _, rfl, rfl, o1, _, _, _, rfl, rfl, sq (sm3 _ _ h1), ev, _, _, rfl, rfl, ⟨by decide, by decide⟩, .inl ⟨_, rfl, _, _, rfl, rfl, (by show (0 : Int) < 2; decide), o4, _, _, _, rfl, rfl, sq h4, ez, ?_⟩⟩
      refine ⟨_, rfl, _, rfl, _, _, rfl, rfl, .inl ⟨by decide, by decide⟩, _, _, rfl, rfl, o1, _, _, _, rfl, rfl, sq (sm3 _ _ h1), eu, _, _, rfl, rfl, ⟨by decide, by decide⟩, .inl ⟨_, rfl, _, _, rfl, rfl, (by show (0 : Int) < 2; decide), rfl, _, rfl, ?_⟩⟩
      have k2 := s3 _ _ g2
      have k3 := s3 _ _ g3
      have kP := gP.mono s3
      have nh := hands_len ps
      refine ite2 (fun _ => ?_) (fun _ => ?_)
      · refine ⟨_, rfl, .inl ⟨rfl, _, sq k2⟩, _, rfl, by show 2 ≤ sizeLine; decide, fun t nt => ?_⟩
        have t2 : o2 ≠ t := ne_of_none k2 nt
        have t3 : o3 ≠ t := ne_of_none k3 nt
        refine ⟨o2, _, _, rfl, rfl, by rw [upd_ne t2]; exact k2, szlt (by rw [gP.len]; omega), ?_⟩
        refine ⟨_, rfl, .inl ⟨rfl, _, sq (by rw [upd_ne d23.symm, upd_ne t3]; exact k3)⟩, _, rfl, o3, _, _, rfl, rfl, by rw [upd_ne d23.symm, upd_ne t3]; exact k3, szlt (by rw [List.length_map]; omega), ?_⟩
        have f2 : ∀ H2' : Hp, ∀ x : HO, (upd (upd H2' o2 x) o3 x) = (upd (upd H2' o2 x) o3 x) := fun _ _ => rfl
        have tt : t ≠ o2 := t2.symm
        have tt3 : t ≠ o3 := t3.symm
        refine ⟨xs ++ [.ref t], ps ++ [(("hand" : Str), z)], _, _, _, rfl, same_mut (same_mut ((sm3.trans (same_upd nt))) n2) n3', by rw [upd_ne d23, upd_same], ?_, by rw [upd_same, hands_snoc_t, map_snoc], by rw [List.length_append, gl]; rfl, ?_⟩
        · refine PlayV.snoc (by rw [upd_ne tt3, upd_ne tt]; exact upd_same) ?_
          refine kP.keep (fun b kd nm hb => ?_)
          have b2 : b ≠ o2 := fun z => by rw [z, k2] at hb; cases hb
          have b3 : b ≠ o3 := fun z => by rw [z, k3] at hb; cases hb
          rw [upd_ne b3, upd_ne b2, upd_ne (ne_of_none hb nt)]
          exact hb
        · intro p hp
          rcases List.mem_append.mp hp with h | h
          · exact ga p h
          · rw [List.mem_singleton.mp h]
            exact ⟨ok_hand, hzn⟩
      · refine ⟨_, rfl, .inl ⟨rfl, _, sq k2⟩, _, rfl, by show 2 ≤ sizeLine; decide, fun t nt => ?_⟩
        have t2 : o2 ≠ t := ne_of_none k2 nt
        have t3 : o3 ≠ t := ne_of_none k3 nt
        refine ⟨o2, _, _, rfl, rfl, by rw [upd_ne t2]; exact k2, szlt (by rw [gP.len]; omega), ?_⟩
        refine ⟨xs ++ [.ref t], ps ++ [(("relay" : Str), z)], _, _, _, rfl, same_mut ((sm3.trans (same_upd nt))) n2, upd_same, ?_, by rw [upd_ne d23.symm, upd_ne t3, hands_snoc_f _ _ (by decide +kernel)]; exact k3, by rw [List.length_append, gl]; rfl, ?_⟩
        · refine PlayV.snoc (by rw [upd_ne t2.symm]; exact upd_same) ?_
          refine kP.keep (fun b kd nm hb => ?_)
          have b2 : b ≠ o2 := fun z => by rw [z, k2] at hb; cases hb
          rw [upd_ne b2, upd_ne (ne_of_none hb nt)]
          exact hb
        · intro p hp
          rcases List.mem_append.mp hp with h | h
          · exact ga p h
          · rw [List.mem_singleton.mp h]
            exact ⟨ok_relay, hzn⟩
    · rintro σ H2 ⟨xs, ps, z4, z5, z6, rfl, sm, g2, gP, g3, gl, ga⟩
      have hlp : ps.length ≤ 41 := by omega
      have hh := hands_len ps
      have hsh := play_shaped ps ga
      -- handed = list(play)
      refine ⟨_, rfl, o2, xs, rfl, .inl (sq g2), fun o7 n7 => ?_⟩
      have s7 : Same H2 (upd H2 o7 (.lst xs)) := same_upd n7
      refine ⟨2, rfl, by decide, by decide, ?_⟩
      refine for_range (lo := 0) (n := (2 : Int).toNat) (fun i σ H3 => ∃ (z8 z9 : Option V), σ = [some (.ref a), some (.ref o1), some (.ref o2), some (.ref o3), z4, z5, z6, some (.ref o7), z8, z9] ∧ Same (upd H2 o7 (.lst xs)) H3)
        ⟨none, none, rfl, Same.refl _⟩ ?_ ?_
      · rintro i σ H3 hi ⟨z8, z9, rfl, s3⟩
        have s23 := s7.trans s3
        refine ⟨_, rfl, o7, xs, ps, rfl, s3 _ _ upd_same, gP.mono s23, by omega, fun H4 o9 s4 n9 h9 => ?_⟩
        have s24 := s23.trans s4
        refine ⟨_, rfl, _, rfl, o9, o3, hands ps, rfl, h9, s24 _ _ g3, fun z hz => ?_, by omega, fun H5 s5 => ⟨_, rfl, ?_⟩⟩
        · obtain ⟨p, hp, e⟩ := hands_mem hz
          rw [← e]
          exact (ga p hp).2
        · refine iteF ?_
          have s25 := s24.trans s5
          have s35 := (s3.trans s4).trans s5
          refine ⟨_, rfl, _, rfl, .list (ps.map mvD), .list (ps.map mvD), .lst (sq (s35 _ _ upd_same)) (gP.mono s25).dp, .lst (sq (s25 _ _ g2)) (gP.mono s25).dp, hsh, hsh, _, rfl, ?_⟩
          rw [shaped_refl hsh]
          refine iteF ?_
          refine ⟨_, rfl, .inl ⟨rfl, _, sq (s5 _ _ h9)⟩, o9, _, _, rfl, rfl, s5 _ _ h9, szlt (by rw [List.length_map]; omega), ?_⟩
          exact ⟨_, _, rfl, same_mut s35 (s3.free n9)⟩
      · rintro σ H3 ⟨z8, z9, rfl, s3⟩
        exact q H3
end
theorem all_mk {l : PySem.W.OpenLaw} {w : World} {K : PySem.W.Frag} {h : Heap} {mg : Str → Option Value} {fa : Addr} (X : K.In h) (G : h.Ns mainGlobals mg) (hfa : mg "law" = some (.ref fa))
    {fR : Addr} {odR anR : Option Addr} {slR : Array (Option Value)} {ocR kVR dcR pmR cdR ctR : Value}
    (aR : PySem.W.nsIn K mainGlobals "_law_row" = some (some (.ref fR))) (lR : K.lookup fR = some ⟨ocR, odR, .func (PySem.W.fnOf "_law_row" "_law_row" (defArgs sRow) (defBody sRow) (defScope sRow) .none kVR dcR pmR anR cdR ctR), slR⟩) (cR : PySem.W.codeIn K cdR "_law_row" = true) (kR : PySem.W.keepIn K (.ref fR) = true)
    {fN : Addr} {odN anN : Option Addr} {slN : Array (Option Value)} {ocN kVN dcN pmN cdN ctN : Value}
    (aN : PySem.W.nsIn K mainGlobals "_law_numbers" = some (some (.ref fN))) (lN : K.lookup fN = some ⟨ocN, odN, .func (PySem.W.fnOf "_law_numbers" "_law_numbers" (defArgs sNumbers) (defBody sNumbers) (defScope sNumbers) .none kVN dcN pmN anN cdN ctN), slN⟩) (cN : PySem.W.codeIn K cdN "_law_numbers" = true) (kN : PySem.W.keepIn K (.ref fN) = true)
    {fM : Addr} {odM anM : Option Addr} {slM : Array (Option Value)} {ocM kVM dcM pmM cdM ctM : Value}
    (aM : PySem.W.nsIn K mainGlobals "_law_names" = some (some (.ref fM))) (lM : K.lookup fM = some ⟨ocM, odM, .func (PySem.W.fnOf "_law_names" "_law_names" (defArgs sNames) (defBody sNames) (defScope sNames) .none kVM dcM pmM anM cdM ctM), slM⟩) (cM : PySem.W.codeIn K cdM "_law_names" = true) (kM : PySem.W.keepIn K (.ref fM) = true)
    {fA : Addr} {odA anA : Option Addr} {slA : Array (Option Value)} {ocA kVA dcA pmA cdA ctA : Value}
    (aA : PySem.W.nsIn K mainGlobals "_law_are_strings" = some (some (.ref fA))) (lA : K.lookup fA = some ⟨ocA, odA, .func (PySem.W.fnOf "_law_are_strings" "_law_are_strings" (defArgs sAre) (defBody sAre) (defScope sAre) .none kVA dcA pmA anA cdA ctA), slA⟩) (cA : PySem.W.codeIn K cdA "_law_are_strings" = true) (kA : PySem.W.keepIn K (.ref fA) = true)
    {fS : Addr} {odS anS : Option Addr} {slS : Array (Option Value)} {ocS kVS dcS pmS cdS ctS : Value}
    (aS : PySem.W.nsIn K mainGlobals "switching_of" = some (some (.ref fS))) (lS : K.lookup fS = some ⟨ocS, odS, .func (PySem.W.fnOf "switching_of" "switching_of" (defArgs sSw) (defBody sSw) (defScope sSw) .none kVS dcS pmS anS cdS ctS), slS⟩) (cS : PySem.W.codeIn K cdS "switching_of" = true) (kS : PySem.W.keepIn K (.ref fS) = true)
    {fL : Addr} {odL anL : Option Addr} {slL : Array (Option Value)} {ocL kVL dcL pmL cdL ctL : Value}
    (aL : PySem.W.nsIn K mainGlobals "law" = some (some (.ref fL))) (lL : K.lookup fL = some ⟨ocL, odL, .func (PySem.W.fnOf "law" "law" (defArgs sLaw) (defBody sLaw) (defScope sLaw) .none kVL dcL pmL anL cdL ctL), slL⟩) (cL : PySem.W.codeIn K cdL "law" = true) (kL : PySem.W.keepIn K (.ref fL) = true)
    (z0 : PySem.W.nsIn K mainGlobals "abs" = some none)
    (z1 : PySem.W.nsIn K mainGlobals "int" = some none)
    (z2 : PySem.W.nsIn K mainGlobals "range" = some none)
    (z3 : PySem.W.nsIn K mainGlobals "max" = some none)
    (z4 : PySem.W.nsIn K mainGlobals "len" = some none)
    (z5 : PySem.W.nsIn K mainGlobals "isinstance" = some none)
    (z6 : PySem.W.nsIn K mainGlobals "list" = some none)
    (z7 : PySem.W.nsIn K mainGlobals "str" = some none)
    (z8 : PySem.W.nsIn K mainGlobals "all" = some none)
    : ∃ fd : FuncData, (∀ (s : Shared) (v : Value), BindsTo s fd ⟨[v], []⟩ [("script", v)]) ∧ ∀ base : Heap, K.In base → base.Ns mainGlobals mg → FnOk l.prog w K mg base CX0 3 fa fd ["script"] (spLaw K) := by
  have e := hfa.symm.trans (PySem.W.mg_of X G aL)
  cases e
  have T : Txt mg := ⟨PySem.W.mg_none_of X G z0, PySem.W.mg_none_of X G z1, PySem.W.mg_none_of X G z2, PySem.W.mg_none_of X G z3, PySem.W.mg_none_of X G z4, PySem.W.mg_none_of X G z5, PySem.W.mg_none_of X G z6, PySem.W.mg_none_of X G z7, PySem.W.mg_none_of X G z8⟩
  have FR := fun_mk (st := sRow) lR cR kR
  have bR := FR.binds (ps := ["cell", "many"]) fun _ _ _ _ _ _ us hl => match us, hl with | [_, _], _ => rfl
  have FN := fun_mk (st := sNumbers) lN cN kN
  have bN := FN.binds (ps := ["script", "many"]) fun _ _ _ _ _ _ us hl => match us, hl with | [_, _], _ => rfl
  have FM := fun_mk (st := sNames) lM cM kM
  have bM := FM.binds (ps := ["number", "other", "many"]) fun _ _ _ _ _ _ us hl => match us, hl with | [_, _, _], _ => rfl
  have FA := fun_mk (st := sAre) lA cA kA
  have bA := FA.binds (ps := ["actual", "expected"]) fun _ _ _ _ _ _ us hl => match us, hl with | [_, _], _ => rfl
  have FS := fun_mk (st := sSw) lS cS kS
  have bS := FS.binds (ps := ["play"]) fun _ _ _ _ _ _ us hl => match us, hl with | [_], _ => rfl
  have FL := fun_mk (st := sLaw) lL cL kL
  exact ⟨PySem.W.fnOf "law" "law" (defArgs sLaw) (defBody sLaw) (defScope sLaw) .none kVL dcL pmL anL cdL ctL, fun s v => .of_eq rfl, fun base _ _ => ok_law FL T FR bR (PySem.W.mg_of X G aR) FN bN (PySem.W.mg_of X G aN) FM bM (PySem.W.mg_of X G aM) FA bA (PySem.W.mg_of X G aA) FS bS (PySem.W.mg_of X G aS)⟩
end Lv
open PySem PySem.W PyProof.Rows
set_option maxRecDepth 100000 in
set_option maxHeartbeats 0 in
theorem PySem.Challenge.cw_leverhouse_k22_switching_of_a_play_holds : PySem.Challenge.rw_leverhouse_k22_switching_of_a_play.Holds := by
  w_on; o_law; k_head; (case hw => w_witness2)
  k_fill
  refine L2.walk_of (l := PySem.Challenge.rw_leverhouse_k22_switching_of_a_play) (n := 63) (k := 3) (x := "script") (CX := fun _ => L2.CX0) (sp := fun w => Lv.spLaw _) rfl (by decide) rfl ⟨rfl, by decide, by decide⟩ (fun w h Y => PySem.W.kIn_of Y) ?F (fun _ _ a ns hl _ hS => ⟨a, ns, rfl, hS, hl, fun _ => rfl⟩) (fun _ _ _ _ _ h => h)
  case F =>
    intro w mg fa h KX G hmg
    refine' Lv.all_mk KX G hmg ?aR ?lR ?cR ?kR ?aN ?lN ?cN ?kN ?aM ?lM ?cM ?kM ?aA ?lA ?cA ?kA ?aS ?lS ?cS ?kS ?aL ?lL ?cL ?kL ?z0 ?z1 ?z2 ?z3 ?z4 ?z5 ?z6 ?z7 ?z8
    (case aR => k_is); (case lR => k_is); (case cR => k_is); (case kR => k_is); (case aN => k_is); (case lN => k_is); (case cN => k_is); (case kN => k_is); (case aM => k_is); (case lM => k_is); (case cM => k_is); (case kM => k_is); (case aA => k_is); (case lA => k_is); (case cA => k_is); (case kA => k_is); (case aS => k_is); (case lS => k_is); (case cS => k_is); (case kS => k_is); (case aL => k_is); (case lL => k_is); (case cL => k_is); (case kL => k_is); (case z0 => k_is); (case z1 => k_is); (case z2 => k_is); (case z3 => k_is); (case z4 => k_is); (case z5 => k_is); (case z6 => k_is); (case z7 => k_is); (case z8 => k_is)

