import PyProof.Rows.All
import Wide.All
import OpenK.AllK
import Wide.FinOn
import HandS.ForMost
import HandS.IsInst
import HandS.Walk
import HandS.TupAny
import HandS.Property
import HandS.ClsMeth
import HandS.MakeKwOnly
import HandS.Star
import KE.GoesEnum
import KE.GoesMore
import HandS.Codes
import HandS.TryOnly
import HandS.Zip
import HandS.DictComp
import HandS.NoneIn
import HandS.Strs
import HandS.Flow
import HandS.Exc
import HandS.ExcOwn
import HandS.WordsExc
import HandS.ExcIs
import HandS.Defaults
import KE.KeyNested
import PySem.Challenge.RW_leverhouse_k15_first_state_and_check
set_option Elab.async false
set_option linter.all false
set_option maxRecDepth 100000
set_option maxHeartbeats 1000000
namespace Lv
open PySem PySem.Spec PyProof.Rows L2
def topS (i : Nat) : Stmt := PySem.Challenge.pw_leverhouse_k15_first_state_and_check.main.body.getD i (.Pass ⟨0, 0, 0, 0⟩)
abbrev sWall : Stmt := topS 0
abbrev sInvalidPlayInit : Stmt := inClass (topS 5) 0
abbrev sIsGoodName : Stmt := topS 13
abbrev sAreNames : Stmt := topS 14
abbrev sIsSpan : Stmt := topS 15
abbrev sIsContact : Stmt := topS 16
abbrev sBoardInit : Stmt := inClass (topS 17) 5
abbrev sBoardCheckSpans : Stmt := inClass (topS 17) 6
abbrev sBoardCheckNames : Stmt := inClass (topS 17) 7
abbrev sBoardCheckContacts : Stmt := inClass (topS 17) 8
abbrev sBoardIsName : Stmt := inClass (topS 17) 9
abbrev sBoardPlus : Stmt := inClass (topS 17) 10
abbrev sBoardMinus : Stmt := inClass (topS 17) 11
abbrev sBoardMovers : Stmt := inClass (topS 17) 12
abbrev sBoardMoverNumber : Stmt := inClass (topS 17) 13
abbrev sBoardIsSwitch : Stmt := inClass (topS 17) 14
abbrev sBoardContactsOf : Stmt := inClass (topS 17) 15
abbrev sBoardContactsAt : Stmt := inClass (topS 17) 16
abbrev sBoardWires : Stmt := inClass (topS 17) 17
abbrev sBoardReplaceContact : Stmt := inClass (topS 17) 18
abbrev sBoardInsertContact : Stmt := inClass (topS 17) 19
abbrev sBoardWithoutContact : Stmt := inClass (topS 17) 20
abbrev sBoardWithContacts : Stmt := inClass (topS 17) 21
abbrev sCloses : Stmt := topS 21
abbrev sIsShort : Stmt := topS 22
abbrev sFlowInit : Stmt := inClass (topS 23) 0
abbrev sNetInit : Stmt := inClass (topS 24) 0
abbrev sNetFedNodes : Stmt := inClass (topS 24) 1
abbrev sNetFeedingNodes : Stmt := inClass (topS 24) 2
abbrev sNetFlow : Stmt := inClass (topS 24) 3
abbrev sNetArrows : Stmt := inClass (topS 24) 4
abbrev sTurned : Stmt := topS 25
abbrev sSpread : Stmt := topS 26
abbrev sIsLive : Stmt := topS 27
abbrev sMachineInit : Stmt := inClass (topS 29) 0
abbrev sMachineFlowAt : Stmt := inClass (topS 29) 1
abbrev sMachineStart : Stmt := inClass (topS 29) 2
abbrev sMachineBehind : Stmt := inClass (topS 29) 3
abbrev sMachineDueNumbers : Stmt := inClass (topS 29) 4
abbrev sMachineRests : Stmt := inClass (topS 29) 5
abbrev sMachineShown : Stmt := inClass (topS 29) 6
abbrev sMachineSteps : Stmt := inClass (topS 29) 7
abbrev sMachineHandSteps : Stmt := inClass (topS 29) 8
abbrev sMachineRelaySteps : Stmt := inClass (topS 29) 9
abbrev sMachineStepsAt : Stmt := inClass (topS 29) 10
abbrev sMachineStepsOf : Stmt := inClass (topS 29) 11
abbrev sCheckState : Stmt := topS 31
abbrev sFirstState : Stmt := topS 32
abbrev sLawRow : Stmt := topS 34
abbrev sLawNumbers : Stmt := topS 35
abbrev sLawNames : Stmt := topS 36
abbrev sLawLoads : Stmt := topS 37
abbrev sLawContact : Stmt := topS 38
abbrev sLawBoard : Stmt := topS 39
abbrev sLawMade : Stmt := topS 40
abbrev sLawMovers : Stmt := topS 41
abbrev sLawState : Stmt := topS 42
abbrev sLawClosed : Stmt := topS 43
abbrev sLawPairs : Stmt := topS 44
abbrev sLawReach : Stmt := topS 45
abbrev sLawReaches : Stmt := topS 46
abbrev sLawFirst : Stmt := topS 47
abbrev sLawSameState : Stmt := topS 48
abbrev sLawTold : Stmt := topS 49
abbrev sLaw : Stmt := topS 50

/-! ### strings and numbers -/
def alph : List Nat := ("abcdefghijklmnopqrstuvwxyz0123456789" : Str).cps.toList
theorem alph_len : alph.length = 36 := by decide +kernel
theorem alph_lt : ∀ c ∈ alph, c < 1114112 := by decide +kernel
/-- letters and figures alone -/
def Al (z : Str) : Prop := ∀ c ∈ z.cps.toList, c ∈ alph
/-- a name: 1 to 12 letters and figures -/
def Nm (z : Str) : Prop := 1 ≤ z.length ∧ z.length ≤ 12 ∧ Al z
def Nums (ns : List Int) : Prop := ∀ n ∈ ns, 0 ≤ n ∧ n < 1009
theorem len_tl (z : Str) : z.length = z.cps.toList.length := by
  show z.cps.size = z.cps.toList.length
  rw [Array.length_toList]
theorem app_tl (a b : Str) : (a ++ b).cps.toList = a.cps.toList ++ b.cps.toList := by
  show (a.cps ++ b.cps).toList = _
  rw [Array.toList_append]
theorem app_len (a b : Str) : (a ++ b).length = a.length + b.length := by
  rw [len_tl, len_tl, len_tl, app_tl, List.length_append]
theorem Al.app {a b : Str} (h1 : Al a) (h2 : Al b) : Al (a ++ b) := by
  intro c hc
  rw [app_tl, List.mem_append] at hc
  rcases hc with hc | hc
  · exact h1 c hc
  · exact h2 c hc
theorem Al.ok {z : Str} (h : Al z) : PyData.strOk z = true := by
  unfold PyData.strOk
  rw [← Array.all_toList, List.all_eq_true]
  intro c hc
  exact decide_eq_true (alph_lt c (h c hc))
theorem str_ext {a b : Str} (h : a.cps.toList = b.cps.toList) : a = b := by
  cases a; cases b
  exact congrArg Str.mk (Array.toList_inj.mp h)
theorem cut_take (z : Str) (p : Nat) : (cutS z none (some (p : Int))).cps.toList = z.cps.toList.take p := by
  unfold cutS
  rw [HT.sIx_nat, HT.sIx_none, List.drop_zero, Nat.sub_zero, len_tl]
  show (List.take (min p z.cps.toList.length) z.cps.toList).toArray.toList = _
  exact List.take_eq_take_min.symm
theorem cut_drop (z : Str) (p : Nat) : (cutS z (some (p : Int)) none).cps.toList = z.cps.toList.drop p := by
  unfold cutS
  rw [HT.sIx_nat, HT.sIx_none, len_tl]
  show (List.take (z.cps.toList.length - min p z.cps.toList.length) (List.drop (min p z.cps.toList.length) z.cps.toList)).toArray.toList = _
  by_cases h : p ≤ z.cps.toList.length
  · rw [Nat.min_eq_left h]
    exact List.take_of_length_le (by rw [List.length_drop]; exact Nat.le_refl _)
  · rw [Nat.min_eq_right (by omega), List.drop_length, List.drop_eq_nil_of_le (by omega)]
    simp
theorem join_ok : ∀ zs : List Str, (∀ z ∈ zs, z.length = 1 ∧ Al z) → (Str.join "" zs).length = zs.length ∧ Al (Str.join "" zs)
  | [], _ => ⟨rfl, fun c hc => by cases hc⟩
  | [x], h => ⟨(h x (List.mem_singleton.mpr rfl)).1, (h x (List.mem_singleton.mpr rfl)).2⟩
  | x :: y :: r, h => by
    have ih := join_ok (y :: r) fun z hz => h z (List.mem_cons_of_mem _ hz)
    have hx := h x List.mem_cons_self
    have e0 : ("" : Str).length = 0 := by decide +kernel
    have a0 : Al ("" : Str) := fun c hc => by cases hc
    show (x ++ ("" : Str) ++ Str.join "" (y :: r)).length = _ ∧ Al (x ++ ("" : Str) ++ Str.join "" (y :: r))
    refine ⟨?_, (hx.2.app a0).app ih.2⟩
    rw [app_len, app_len, hx.1, e0, ih.1]
    show 1 + 0 + (y :: r).length = (y :: r).length + 1
    omega
theorem at_in {α : Type} (xs : List α) (i : Int) (h0 : 0 ≤ i) (h1 : i < (xs.length : Int)) : ∃ v, v ∈ xs ∧ xs[i.toNat]? = some v ∧ atI xs i = some v := by
  have hl : i.toNat < xs.length := by omega
  refine ⟨xs[i.toNat], List.getElem_mem hl, List.getElem?_eq_getElem hl, ?_⟩
  have e := atI_nat (xs := xs) (j := i.toNat) (List.getElem?_eq_getElem hl)
  rwa [Int.toNat_of_nonneg h0] at e
theorem at_num {ns : List Int} (hn : Nums ns) (i : Int) (h0 : 0 ≤ i) (h1 : i < (ns.length : Int)) : ∃ n, 0 ≤ n ∧ n < 1009 ∧ atI (ns.map V.int) i = some (.int n) := by
  obtain ⟨v, hv, _, e⟩ := at_in (ns.map V.int) i h0 (by rw [List.length_map]; exact h1)
  obtain ⟨n, hm, rfl⟩ := List.mem_map.mp hv
  exact ⟨n, (hn n hm).1, (hn n hm).2, e⟩
theorem Nums.snoc {ns : List Int} (h : Nums ns) {n : Int} (h0 : 0 ≤ n) (h1 : n < 1009) : Nums (ns ++ [n]) := by
  intro m hm
  rw [List.mem_append, List.mem_singleton] at hm
  rcases hm with hm | rfl
  · exact h m hm
  · exact ⟨h0, h1⟩
/-! ### heaps -/
theorem same_upd {H : Hp} {p : Addr} {o : HO} (h : H p = none) : Same H (upd H p o) := fun b x e => by
  rw [upd_ne (ne_of_none e h)]
  exact e
/-- what H does not know may change -/
theorem same_mut {H H2 : Hp} {p : Addr} {o : HO} (s : Same H H2) (h : H p = none) : Same H (upd H2 p o) := fun b x e => by
  rw [upd_ne (ne_of_none e h)]
  exact s _ _ e
theorem sq {K : PySem.W.Frag} {H : Hp} {a : Addr} {xs : List V} (h : H a = some (.lst xs)) : SqL K H a xs := .inl (.inl h)
theorem st {K : PySem.W.Frag} {H : Hp} {a : Addr} {xs : List V} (h : H a = some (.tup xs)) : SqT K H a xs := .inl (.inl h)
theorem szl {n : Nat} (h : n ≤ 1000000) : n ≤ sizeLine := Nat.le_trans h (by decide)
theorem szlt {n : Nat} (h : n ≤ 1000000) : n < sizeLine := Nat.lt_of_le_of_lt h (by decide)
theorem map_snoc {α β : Type} (f : α → β) (xs : List α) (x : α) : (xs ++ [x]).map f = xs.map f ++ [f x] := by
  rw [List.map_append]
  rfl
theorem cut_list (xs : List V) (n : Nat) : cutV xs none (some (n : Int)) = xs.take n := by
  unfold cutV
  rw [HT.sIx_nat, HT.sIx_none, List.drop_zero, Nat.sub_zero, ← List.take_eq_take_min]
theorem yesT {σ : L2.St} {H : Hp} {A B : Hp → Prop} (h : A H) : tYes σ H (fun b H3 => if b = true then A H3 else B H3) := by
  show (if true = true then A H else B H)
  rw [if_pos rfl]
  exact h
/-! ### enumerate of a tuple -/
/-- the turns: the place and the item, in a new pair -/
def ItU (K : PySem.W.Frag) (a : Addr) : It :=
  ⟨fun i H => ∃ (xs : List V) (x : V), SqT K H a xs ∧ xs[i]? = some x, fun i H v G => ∃ T x, v = .ref T ∧ H T = none ∧ G = upd H T (.tup [.int (i : Nat), x]) ∧ ∀ xs, SqT K H a xs → xs[i]? = some x,
    fun i H => ∃ xs : List V, SqT K H a xs ∧ xs.length ≤ i⟩
theorem newU {v : Value} {o : Obj} {J : Heap → Prop} (B : Begins v o J) :
    Meets (Builtin.«enumerate.__new__» ⟨[.type "enumerate", v], []⟩) (fun _ R z => J z.heap ∧
      R (.ok (.ret (.ref (z.heap.push o).objs.size))) { z with heap := (z.heap.push o).push { cls := .type "enumerate", data := .fields #[.none, .bool false, .ref z.heap.objs.size, rawInt 0, .none, .none] } }) :=
  .of_wp fun prog wd A R z hz => by
    obtain ⟨hp, gn, dr, tk, os⟩ := z
    obtain ⟨j1, hr⟩ := hz
    have hsub := sub_enumerate
    have q1 : ∀ {B' : Around} {E2 : Value → Shared → Prop} {Q2 : Value → Shared → Prop}, Q2 (.ref hp.objs.size) ⟨hp.push o, gn, dr, tk, os⟩ → wpAny (model prog wd) B' (pyIter v) Q2 E2 ⟨hp, gn, dr, tk, os⟩ :=
      fun y => B.iter prog wd _ _ ⟨hp, gn, dr, tk, os⟩ _ j1 y
    wp_walk using q1
    refine wpAny_stack_any fun _ => wpAny_pure ?_
    split
    · rename_i c _ _ _ _ _
      cases (c == Value.type "enumerate") <;> (wp_walk using q1; exact ⟨_, rfl, hr⟩)
    · wp_walk using q1
      exact ⟨_, rfl, hr⟩
theorem callU {prog : Program} {wd : World} {A : Around} {E : Value → Shared → Prop} {z : Shared} {v : Value} {o : Obj} {J : Heap → Prop} {Q : Value → Shared → Prop} (B : Begins v o J) (j1 : J z.heap)
    (hq : ∀ g, IsEnum g (z.heap.objs.size + 1) z.heap.objs.size 0 .none → g.get? z.heap.objs.size = some o → (∀ b u, z.heap.get? b = some u → g.get? b = some u) → Q (.ref (z.heap.objs.size + 1)) { z with heap := g }) :
    wpAny (model prog wd) A (call (.type "enumerate") [v]) Q E z := by
  refine callType_new F.called_enumerate (by decide) (F.typeCall_enumerate_1 _) (F.newCall_enumerate_1 _) (fun ob => F.args_object_init_2 ob _) F.entry_enumerate_new (newU B) ⟨j1, ?_⟩
  have hsz : (z.heap.push o).objs.size = z.heap.objs.size + 1 := Heap.size_push ..
  show _ ∧ _
  rw [hsz]
  have hen : IsEnum ((z.heap.push o).push { cls := .type "enumerate", data := .fields #[.none, .bool false, .ref z.heap.objs.size, rawInt 0, .none, .none] }) (z.heap.objs.size + 1) z.heap.objs.size 0 .none := by
    have y := Heap.get?_push_size (z.heap.push o) (o := { cls := .type "enumerate", data := .fields #[.none, .bool false, .ref z.heap.objs.size, rawInt 0, .none, .none] }) rfl
    rwa [hsz] at y
  exact ⟨⟨_, hen, rfl⟩, hq _ hen (Heap.get?_push_of_some _ (Heap.get?_push_size _ B.free)) fun _ _ y => Heap.get?_push_of_some _ (Heap.get?_push_of_some _ y)⟩
theorem turnU {P : Program} {w : World} {K : PySem.W.Frag} {elts : List Expr} {kk : Nat} {tpos : Pos} (a e it : Addr) :
    Turn P w K (.Tuple elts kk tpos) (ItU K a) [e, it] e (fun i g => (∃ old, IsEnum g e it ((i : Nat) : Int) old) ∧ g.IsTupleIter it a i ∧ e ≠ it) where
  mem := by simp
  obj := fun i g y b hb => by
    obtain ⟨⟨old, he⟩, ⟨o, ho, _, hd⟩, _⟩ := y
    rcases (show b = e ∨ b = it by simpa using hb) with q | q
    · subst q
      exact ⟨_, he, fun v z => nomatch z⟩
    · subst q
      exact ⟨o, ho, fun v z => by rw [hd] at z; cases z⟩
  keep := fun i g g' y k => ⟨y.1.elim fun old he => ⟨old, k e (by simp) _ he⟩, y.2.1.at fun o q => k it (by simp) o q, y.2.2⟩
  item := by
    intro X hP hw hK hc i pins z σ H E I hf y hg
    subst hP hw hK
    obtain ⟨⟨old, he⟩, hit, hne⟩ := y
    obtain ⟨xs, x, hq, hx⟩ := hg
    obtain ⟨its, rv, tp, _⟩ := I.tuple hq
    obtain ⟨u, hu, ru⟩ := rv.get hx
    have hel : e < z.heap.objs.size := Heap.lt_size he
    have hil : it < z.heap.objs.size := by
      obtain ⟨_, q, _⟩ := hit
      exact Heap.lt_size q
    have hae : a ≠ e := fun q => by
      obtain ⟨o1, e1, e2, _⟩ := tp
      rw [q, he] at e1
      cases e1
      injection e2 with e5
      exact absurd e5 (by decide)
    have hai : a ≠ it := fun q => by
      obtain ⟨o1, e1, e2, _⟩ := tp
      obtain ⟨o3, e3, e4, _⟩ := hit
      rw [q, e3] at e1
      cases e1
      rw [e4] at e2
      injection e2 with e5
      exact absurd e5 (by decide)
    have lt : i < its.toArray.size := by
      have := (List.getElem?_eq_some_iff.mp hu).1
      simpa using this
    refine wpAny_pyNext_enum_itemC (Draws.tuple (prog := X.prog) (w := X.w) (A := X.A.in1) (I.ok.hd hc) it a hai its.toArray) he ⟨hit, tp⟩ lt hne (by simp [hne, hae.symm]) fun v g tk hv ho hs' hT hsz hk => ?_
    have ev : v = u := by
      rw [show its.toArray[i]? = some u by simpa using hu] at hv
      exact (Option.some.inj hv).symm
    subst ev
    refine ⟨_, rfl, wpAny_letOwnedTupleGo_enum (s := { z with heap := g, toks := tk + 1 }) ho fun g2 he2 sb => ?_⟩
    have hT2 : g2.get? z.heap.objs.size = some { cls := .type "tuple", data := .seq #[.int i tk, v] } := (sb.2 _ (Nat.ne_of_gt hel)).trans hT
    have nw : ObjOk X.prog X.w (upd H z.heap.objs.size (.tup [.int (i : Nat), x])) g2 z.heap.objs.size (.tup [.int (i : Nat), x]) :=
      ⟨by show 2 ≤ sizeLine; decide, [.int i tk, v], .cons ⟨_, rfl⟩ (.cons ru .nil), ⟨_, hT2, rfl, _, rfl⟩⟩
    have I1 : Inv X pins σ (upd H z.heap.objs.size (.tup [.int (i : Nat), x])) { z with heap := g2, toks := tk + 1 } :=
      I.turnedNew (ch := [e, it]) (fun b ob hb q => (sb.2 b (fun m => hb (by simp [m]))).trans (hk b ob (fun m => hb (by simp [m])) (fun m => hb (by simp [m])) q)) hf (Nat.le_refl _) nw
    refine ⟨.ref z.heap.objs.size, _, I1, rfl, ⟨_, x, rfl, I.hok.fresh (Nat.le_refl _), rfl, fun ys hy => by rw [I.tuple_inj hy hq]; exact hx⟩, ⟨⟨v, ?_⟩, hs'.1.at fun o q => (sb.2 it (Ne.symm hne)).trans q, hne⟩, fun b hb => ?_⟩
    · rw [show ((i + 1 : Nat) : Int) = (i : Int) + 1 by omega]
      exact he2
    · have lb : b < z.heap.objs.size := by
        rcases (show b = e ∨ b = it by simpa using hb) with q | q
        · rw [q]; exact hel
        · rw [q]; exact hil
      rw [upd_ne (Nat.ne_of_lt lb)]
      exact (hf b hb).1
  done := by
    intro X hP hw hK hc i pins z σ H E I hf y hg
    subst hP hw hK
    obtain ⟨⟨old, he⟩, hit, hne⟩ := y
    obtain ⟨xs, hq, hx⟩ := hg
    obtain ⟨its, rv, tp, _⟩ := I.tuple hq
    obtain ⟨f0, f1, f2, f3, f4, f5⟩ := hf it (by simp)
    have hT : z.TypeIs (.ref e) "enumerate" := ⟨_, he, rfl⟩
    unfold pyNext
    refine wpAny_bind (wpAny_attempt (wpAny_callSpecial?_slot (name := Str.ofString "__next__") hT F.slot_enumerate_next (wpAny_call_entry F.slot_enumerate_next hT F.entry_enumerate_next ?_ (F.args_enumerate_next_1 _))))
    show wpAny _ _ (field (.ref e) 2 >>= _) _ _ _
    refine wpAny_bind (wpAny_field he rfl (x := .ref it) rfl ?_)
    refine wpAny_bind (wpAny_nextOf_tuple_end (I.ok.hd hc) hit tp (by
      have hl := rv.length
      simp
      omega) fun g x eb hx' => ?_)
    obtain ⟨o, ho, hcl⟩ := hx'
    refine wpAny_bind (wpAny_isInstance (T := "StopIteration") (b := true) ⟨o, ho, hcl⟩ isSubtype_stop ?_)
    exact wpAny_pure ⟨rfl, I.turned (t' := z.toks) (fun b o hb q => eb b o hb q) f0 f1 f3 f4 f5⟩
  self := fun _ _ _ _ _ y q => y.1.elim fun _ he => wpAny_pyIter_enum he q
def iEnumT (K : PySem.W.Frag) (ta : TA) : TI := fun σ H R => ta σ H fun vs H1 => ∃ a xs, vs = [.ref a] ∧ SqT K H1 a xs ∧ R (ItU K a) H1
theorem pi_enumT {X : Cx} {e : Expr} {ta : TA} {p pos tpos : Pos} {elts : List Expr} {kk : Nat} (hg : Gl X "enumerate") (hm : X.mg "enumerate" = none) (ha : PA X [e] ta) (hs : starEach [e] X.env = [(false, eval e X.env)] := by rfl) :
    PI X (.Tuple elts kk tpos) (.Call (.Name "enumerate" p) [e] [] pos) (iEnumT X.K ta) := by
  refine ⟨fun pins z σ H R I h => ?_⟩
  refine Call_ (ld_blt I hg hm boot_enumerate (PyProof.Rows.callWith_type1 (thn (ha.run pos pins z σ H _ I h) fun us z1 ⟨vs, H1, I1, r1, q1⟩ => ?_) hs rfl))
  obtain ⟨a, xs, ex, hq, q⟩ := q1
  subst ex
  cases r1 with
  | cons r rr =>
    cases rr
    cases r
    obtain ⟨its, rv, tp, _⟩ := I1.tuple hq
    refine callU (begins_tuple a its.toArray) tp fun g he hit hk => wpAny_pyIter_enum he ?_
    have I2 : Inv X pins σ H1 { z1 with heap := g } := I1.kept (t' := z1.toks) hk
    refine ⟨z1.heap.objs.size + 1, [z1.heap.objs.size + 1, z1.heap.objs.size], _, _, H1, rfl, I2, turnU a (z1.heap.objs.size + 1) z1.heap.objs.size, ⟨⟨.none, he⟩, ⟨_, hit, rfl, rfl⟩, Nat.succ_ne_self _⟩, fun b hb => ?_, q⟩
    have lb : z1.heap.objs.size ≤ b := by
      rcases (show b = z1.heap.objs.size + 1 ∨ b = z1.heap.objs.size by simpa using hb) with m | m
      · rw [m]; exact Nat.le_add_right _ _
      · rw [m]; exact Nat.le_refl _
    exact I1.fpOk lb (I1.hok.fresh lb)
theorem walk_enumT {K : PySem.W.Frag} {a : Addr} {xs : List V} : Walk (ItU K a) xs.length (fun H => SqT K H a xs) (YPair (fun i => some (.int (i : Nat))) (fun i => xs[i]?)) := by
  refine ⟨fun i _ hi q => ⟨xs, xs[i], q, by simp [hi]⟩, fun _ q => ⟨xs, q, Nat.le_refl _⟩, fun i H v G _ q y => ?_⟩
  obtain ⟨T, x, h1, h2, h3, h4⟩ := y
  exact ⟨T, .int (i : Nat), x, h1, h2, h3, rfl, h4 xs q⟩
/-! ### a staticmethod called off its class -/
structure SMet (K : PySem.W.Frag) (C : Addr) (mc : Value) (m : Str) (p g : Addr) : Prop where
  rd : PySem.W.readsIn K C mc = true
  ga : PySem.W.specialIn K (.ref C) "__getattribute__" = some (some (.builtin "type.__getattribute__"))
  at_ : PySem.W.findCls K (.ref C) mc m = some (.get (.builtin "staticmethod.__get__") (.ref p) .none (.ref C))
  rc : ∃ rest, PySem.W.recIn K p "staticmethod" = some (.ref g :: rest)
  kp : PySem.W.keepIn K (.ref g) = true
def tSMeth (C : Addr) (sp : Sp) (E : XK) (ta : TE) (t : TA) : TE := fun σ H Q => ta σ H fun x H1 => x = .ref C ∧ t σ H1 fun vs H2 => sp vs H2 Q E
theorem pe_smeth {X : Cx} {CX : CXT} {k : Nat} {C p g : Addr} {mc : Value} {fd : FuncData} {ps : List Str} {sp : Sp} {E : XK} {o e : Expr} {es : List Expr} {m : Str} {pos apos : Pos} {ta : TE} {t : TA} {pl : Sem Bool}
    (he : PE X o ta) (c : SMet X.K C mc m p g) (F : FnOk X.prog X.w X.K X.mg X.base CX k g fd ps sp) (hr : Room k X.A) (hb : Binds X.K fd ps []) (hx : Passes CX X E) (ha : PA X (e :: es) t)
    (hst : starEach (e :: es) X.env = (false, eval e X.env) :: starEach es X.env := by rfl) (hpl : (backTo pos (starEach es X.env)).any (·.1) = false := by rfl)
    (ht : eval (.Call (.Attribute o m apos) (e :: es) [] pos) X.env = (do let ov ← eval o X.env; standAt apos.atName; let (f, first) ← holding [ov] (getMethod ov m pl); callWith pos f first (backTo pos (starEach (e :: es) X.env)) (backToKw pos (keywordEach [] X.env))) := by rfl) :
    PE X (.Call (.Attribute o m apos) (e :: es) [] pos) (tSMeth C sp E ta t) := by
  refine ⟨fun pins z σ H Q I h => PySem.W.methodCall_KW (pl := pl) (thn (he.run pins z σ H _ I h) fun u z1 ⟨x, H1, I1, rx, ex, q⟩ => ?_) ht⟩
  subst ex
  obtain rfl : u = Value.ref C := rx
  obtain ⟨rest, hp⟩ := c.rc
  refine PySem.W.method_cls I1.kIn c.ga (PySem.W.cls_bind I1.kIn c.rd c.at_ (wpAny_call (PySem.W.sm_get (s := { z1 with toks := z1.toks + 1 }) I1.kIn hp (PySem.W.handed_on rfl ?_))))
  have I2 : Inv X pins σ H1 { z1 with toks := z1.toks + 1 } := I1.tok _
  refine PySem.W.callWith_K (first := []) (h₀ := X.base) I.ok.mod.kin c.kp (thn (ha.run pos pins _ σ H1 _ I2 q) fun us z2 ⟨vs, H2, I3, r, q2⟩ => ⟨I3.kIn, ?_⟩) hst hpl
  exact run_fn (us := us) (vs := vs) (dvs := []) (ds := []) F hr hb .nil hx I3 r (by rw [List.append_nil]; exact q2)
/-! ### a list or a tuple -/
def Sq (K : PySem.W.Frag) (H : Hp) (a : Addr) (xs : List V) : Prop := SqL K H a xs ∨ SqT K H a xs
theorem Same.sqt {K : PySem.W.Frag} {H H' : Hp} {a : Addr} {xs : List V} (e : Same H H') (h : SqT K H a xs) : SqT K H' a xs := by
  rcases h with (h | ⟨o, h⟩) | h
  · exact .inl (.inl (e _ _ h))
  · exact .inl (.inr ⟨o, e _ _ h⟩)
  · exact .inr h
theorem Same.sq {K : PySem.W.Frag} {H H' : Hp} {a : Addr} {xs : List V} (e : Same H H') (h : Sq K H a xs) : Sq K H' a xs := h.elim (fun z => .inl (e.seq z)) fun z => .inr (Same.sqt e z)
def iEnumA (K : PySem.W.Frag) (ta : TA) : TI := fun σ H R => ta σ H fun vs H1 => ∃ a xs, vs = [.ref a] ∧ ((SqL K H1 a xs ∧ R (Ite K a) H1) ∨ (SqT K H1 a xs ∧ R (ItU K a) H1))
theorem pi_enumA {X : Cx} {e : Expr} {ta : TA} {p pos tpos : Pos} {elts : List Expr} {kk : Nat} (hg : Gl X "enumerate") (hm : X.mg "enumerate" = none) (ha : PA X [e] ta) (hs : starEach [e] X.env = [(false, eval e X.env)] := by rfl) :
    PI X (.Tuple elts kk tpos) (.Call (.Name "enumerate" p) [e] [] pos) (iEnumA X.K ta) := by
  refine ⟨fun pins z σ H R I h => ?_⟩
  refine Call_ (ld_blt I hg hm boot_enumerate (PyProof.Rows.callWith_type1 (thn (ha.run pos pins z σ H _ I h) fun us z1 ⟨vs, H1, I1, r1, q1⟩ => ?_) hs rfl))
  obtain ⟨a, xs, ex, hq⟩ := q1
  subst ex
  cases r1 with
  | cons r rr =>
    cases rr
    cases r
    have fp : ∀ b ∈ [z1.heap.objs.size + 1, z1.heap.objs.size], FpOk X pins H1 b := fun b hb => by
      have lb : z1.heap.objs.size ≤ b := by
        rcases (show b = z1.heap.objs.size + 1 ∨ b = z1.heap.objs.size by simpa using hb) with m | m
        · rw [m]; exact Nat.le_add_right _ _
        · rw [m]; exact Nat.le_refl _
      exact I1.fpOk lb (I1.hok.fresh lb)
    rcases hq with ⟨hq, q⟩ | ⟨hq, q⟩
    · obtain ⟨its, rv, tp, _⟩ := I1.list hq
      refine callU (begins_list a its.toArray) tp.isList fun g he hit hk => wpAny_pyIter_enum he ?_
      have I2 : Inv X pins σ H1 { z1 with heap := g } := I1.kept (t' := z1.toks) hk
      exact ⟨z1.heap.objs.size + 1, [z1.heap.objs.size + 1, z1.heap.objs.size], _, _, H1, rfl, I2, turn_enum a (z1.heap.objs.size + 1) z1.heap.objs.size, ⟨⟨.none, he⟩, ⟨_, hit, rfl, rfl⟩, Nat.succ_ne_self _⟩, fp, q⟩
    · obtain ⟨its, rv, tp, _⟩ := I1.tuple hq
      refine callU (begins_tuple a its.toArray) tp fun g he hit hk => wpAny_pyIter_enum he ?_
      have I2 : Inv X pins σ H1 { z1 with heap := g } := I1.kept (t' := z1.toks) hk
      exact ⟨z1.heap.objs.size + 1, [z1.heap.objs.size + 1, z1.heap.objs.size], _, _, H1, rfl, I2, turnU a (z1.heap.objs.size + 1) z1.heap.objs.size, ⟨⟨.none, he⟩, ⟨_, hit, rfl, rfl⟩, Nat.succ_ne_self _⟩, fp, q⟩
def rSlB (K : PySem.W.Frag) : V → Option Int → Option Int → Hp → VK → Prop := fun x lo hi H Q => rSlL K x lo hi H Q ∨ rSlA K x lo hi H Q
theorem sl_any {X : Cx} : SlR X (rSlB X.K) := by
  intro pins z σ H x v vl vu lo hi sl Q I rx hs pl pu h
  rcases h with h | h
  · exact sl_list pins z σ H x v vl vu lo hi sl Q I rx hs pl pu h
  · exact sl_tupA pins z σ H x v vl vu lo hi sl Q I rx hs pl pu h
/-- what a slice hands on, in both cases: a list or tuple of the part -/
theorem cut_any {K : PySem.W.Frag} {a : Addr} {xs : List V} {lo hi : Option Int} {H : Hp} {Q : VK} (h : Sq K H a xs) (q : ∀ p H', Same H H' → Sq K H' p (cutV xs lo hi) → (∀ b, H b ≠ none → H' b = H b) → Q (.ref p) H') : rSlB K (.ref a) lo hi H Q := by
  rcases h with h | h
  · exact .inl ⟨a, xs, rfl, h, fun p np => q p _ (same_upd np) (.inl (sq upd_same)) fun b hb => upd_ne fun e => hb (e ▸ np)⟩
  · refine .inr ⟨a, xs, rfl, h, fun ⟨e1, e2⟩ => q a H (Same.refl H) (.inr ?_) fun _ _ => rfl, fun _ p np => q p _ (same_upd np) (.inr (st upd_same)) fun b hb => upd_ne fun e => hb (e ▸ np)⟩
    unfold cutV
    rw [e1, e2, List.drop_zero, Nat.sub_zero, List.take_length]
    exact h
/-- x in xs -/
theorem inV_str (x : Str) (xs : List Str) : inV (.str x) (xs.map V.str) = decide (x ∈ xs) := by
  unfold inV
  induction xs with
  | nil => rfl
  | cons y r ih =>
    rw [List.map_cons, List.any_cons, ih]
    show (y == x || decide (x ∈ r)) = decide (x ∈ y :: r)
    by_cases e : y = x
    · subst e
      simp
    · have e2 : ¬ x = y := fun z => e z.symm
      simp [e, e2]
theorem flat_strs (xs : List Str) : (xs.map V.str).all flatV = true := by
  rw [List.all_eq_true]
  intro v hv
  obtain ⟨z, _, rfl⟩ := List.mem_map.mp hv
  rfl
/-! ### a for over a list or a tuple -/
def iSeqA (K : PySem.W.Frag) (tl : TE) : TI := fun σ H R => tl σ H fun x H1 => ∃ a xs, x = .ref a ∧ ((SqL K H1 a xs ∧ R (Itl K a) H1) ∨ (SqT K H1 a xs ∧ R (Itt K a) H1))
theorem pi_seqA {X : Cx} {tg l : Expr} {tl : TE} (hl : PE X l tl) : PI X tg l (iSeqA X.K tl) := by
  refine ⟨fun pins z σ H R I h => thn (hl.run pins z σ H _ I h) fun v z1 ⟨x, H1, I1, r1, q1⟩ => ?_⟩
  obtain ⟨a, xs, ex, hq⟩ := q1
  subst ex
  cases r1
  have fp : ∀ b ∈ [z1.heap.objs.size], FpOk X pins H1 b := fun b hb => by
    rw [List.mem_singleton.mp hb]
    exact I1.fpOk (Nat.le_refl _) (I1.hok.fresh (Nat.le_refl _))
  rcases hq with ⟨hq, q⟩ | ⟨hq, q⟩
  · obtain ⟨its, rv, tp, _⟩ := I1.list hq
    exact wpAny_pyIter_list tp.isList ⟨z1.heap.objs.size, [z1.heap.objs.size], _, _, H1, rfl, I1.kept (t' := z1.toks) fun b o e => Heap.get?_push_of_some _ e, turn_list a _, ⟨_, Heap.get?_push_size _ rfl, rfl, rfl⟩, fp, q⟩
  · obtain ⟨its, rv, tp, _⟩ := I1.tuple hq
    exact wpAny_pyIter_tuple (show z1.heap.IsTuple a its.toArray from tp) ⟨z1.heap.objs.size, [z1.heap.objs.size], _, _, H1, rfl, I1.kept (t' := z1.toks) fun b o e => Heap.get?_push_of_some _ e, turn_tuple a _, ⟨_, Heap.get?_push_size _ rfl, rfl, rfl⟩, fp, q⟩
/-! ### rows: tuples in a list or tuple -/
def Rows (K : PySem.W.Frag) (H : Hp) : List V → List (List V) → Prop
  | [], [] => True
  | v :: xs, r :: rs => (∃ t, v = .ref t ∧ SqT K H t r) ∧ Rows K H xs rs
  | _, _ => False
section
variable {K : PySem.W.Frag} {H H' : Hp}
theorem Rows.mono (s : Same H H') : ∀ {xs : List V} {rs : List (List V)}, Rows K H xs rs → Rows K H' xs rs
  | [], [], _ => True.intro
  | _ :: _, _ :: _, ⟨⟨t, e, h⟩, r⟩ => ⟨⟨t, e, Same.sqt s h⟩, r.mono s⟩
theorem Rows.len : ∀ {xs : List V} {rs : List (List V)}, Rows K H xs rs → xs.length = rs.length
  | [], [], _ => rfl
  | _ :: _, _ :: _, ⟨_, r⟩ => congrArg (· + 1) r.len
theorem Rows.snoc {t : Addr} {w : List V} (h : SqT K H t w) : ∀ {xs : List V} {rs : List (List V)}, Rows K H xs rs → Rows K H (xs ++ [.ref t]) (rs ++ [w])
  | [], [], _ => ⟨⟨t, rfl, h⟩, True.intro⟩
  | _ :: _, _ :: _, ⟨e, r⟩ => ⟨e, r.snoc h⟩
theorem Rows.app : ∀ {xs ys : List V} {rs ss : List (List V)}, Rows K H xs rs → Rows K H ys ss → Rows K H (xs ++ ys) (rs ++ ss)
  | [], _, [], _, _, h => h
  | _ :: _, _, _ :: _, _, ⟨e, r⟩, h => ⟨e, r.app h⟩
theorem Rows.at : ∀ {xs : List V} {rs : List (List V)} {i : Nat} {v : V}, Rows K H xs rs → xs[i]? = some v → ∃ t r, v = .ref t ∧ SqT K H t r ∧ rs[i]? = some r
  | [], [], _, _, _, h => by simp at h
  | _ :: _, r :: _, 0, _, ⟨⟨t, e, h⟩, _⟩, hi => ⟨t, r, by rw [← Option.some.inj hi]; exact e, h, rfl⟩
  | _ :: _, _ :: _, i + 1, _, ⟨_, r⟩, hi => Rows.at (i := i) r hi
theorem Rows.take : ∀ {xs : List V} {rs : List (List V)} (i : Nat), Rows K H xs rs → Rows K H (xs.take i) (rs.take i)
  | [], [], i, _ => by simp [Rows]
  | _ :: _, _ :: _, 0, _ => True.intro
  | _ :: _, _ :: _, i + 1, ⟨e, r⟩ => ⟨e, r.take i⟩
theorem Rows.drop : ∀ {xs : List V} {rs : List (List V)} (i : Nat), Rows K H xs rs → Rows K H (xs.drop i) (rs.drop i)
  | [], [], i, _ => by simp [Rows]
  | _ :: _, _ :: _, 0, h => h
  | _ :: _, _ :: _, i + 1, ⟨_, r⟩ => r.drop i
end
/-! ### boards: the data -/
structure Sp3 where (nm one oth : Str)
def Sp3.row (r : Sp3) : List V := [.str r.nm, .str r.one, .str r.oth]
structure Ct where (one oth : Str) (mv : Option Str) (whn way : Str)
def mvV : Option Str → V
  | none => .non
  | some m => .str m
def Ct.row (c : Ct) : List V := [.str c.one, .str c.oth, mvV c.mv, .str c.whn, .str c.way]
structure Bd where (nodes switches : List Str) (relays lamps : List Sp3) (contacts : List Ct)
def Bd.movers (b : Bd) : List Str := b.switches ++ b.relays.map (·.nm)
def isNm (z : Str) : Bool := decide (1 ≤ z.length) && (decide (z.length ≤ 12) && z.cps.toList.all fun c => decide (c ∈ alph))
theorem isNm_iff {z : Str} : isNm z = true ↔ Nm z := by
  unfold isNm Nm Al
  simp only [Bool.and_eq_true, decide_eq_true_eq, List.all_eq_true]
def areNm (zs : List Str) (lo hi : Nat) : Bool := zs.all isNm && (decide zs.Nodup && (decide (lo ≤ zs.length) && decide (zs.length ≤ hi)))
def spanB (nodes : List Str) (r : Sp3) : Bool := isNm r.nm && (decide (r.one ∈ nodes) && (decide (r.oth ∈ nodes) && !decide (r.one = r.oth)))
def makeS : Str := "make"
def breakS : Str := "break"
def bothS : Str := "both"
def forwardS : Str := "forward"
def ctB (nodes movers : List Str) (c : Ct) : Bool := decide (c.one ∈ nodes) && (decide (c.oth ∈ nodes) && (!decide (c.one = c.oth) && ((match c.mv with
  | none => decide (c.whn = makeS)
  | some m => decide (m ∈ movers) && decide (c.whn ∈ [makeS, breakS])) && decide (c.way ∈ [bothS, forwardS]))))
/-- a board that may be -/
structure Bd.Ok (b : Bd) : Prop where
  nodes : areNm b.nodes 2 16 = true
  sw : b.switches.length ≤ 6
  rl : b.relays.length ≤ 8
  mv : areNm b.movers 0 b.movers.length = true
  lp : areNm (b.lamps.map (·.nm)) 1 8 = true
  spR : ∀ r ∈ b.relays, spanB b.nodes r = true
  spL : ∀ r ∈ b.lamps, spanB b.nodes r = true
  ct : b.contacts.length ≤ 40
  cts : ∀ c ∈ b.contacts, ctB b.nodes b.movers c = true
theorem areNm_names {zs : List Str} {lo hi : Nat} (h : areNm zs lo hi = true) : (∀ z ∈ zs, Nm z) ∧ zs.Nodup ∧ lo ≤ zs.length ∧ zs.length ≤ hi := by
  unfold areNm at h
  simp only [Bool.and_eq_true, decide_eq_true_eq, List.all_eq_true] at h
  exact ⟨fun z hz => isNm_iff.mp (h.1 z hz), h.2.1, h.2.2.1, h.2.2.2⟩
/-- what the top holds of the class and of the constants about it -/
structure BTxt (K : PySem.W.Frag) (mg : Str → Option Value) (C : Addr) (mc : Value) (sp : Addr) (sg : Addr) : Prop where
  cl : Cls K C
  nN : NoAttr K C "nodes"
  nS : NoAttr K C "switches"
  nR : NoAttr K C "relays"
  nL : NoAttr K C "lamps"
  nC : NoAttr K C "contacts"
  nM : NoAttr K C "_movers"
  mgB : mg "Board" = some (.ref C)
  gI : mg "is_good_name" = some (.ref sg)
  cr : ClX.CRead K C mc
  c1 : ∃ t, PySem.W.findCls K (.ref C) mc "MOST_NODES" = some (.val (.int 16 t))
  c2 : ∃ t, PySem.W.findCls K (.ref C) mc "MOST_SWITCHES" = some (.val (.int 6 t))
  c3 : ∃ t, PySem.W.findCls K (.ref C) mc "MOST_RELAYS" = some (.val (.int 8 t))
  c4 : ∃ t, PySem.W.findCls K (.ref C) mc "MOST_LAMPS" = some (.val (.int 8 t))
  c5 : ∃ t, PySem.W.findCls K (.ref C) mc "MOST_CONTACTS" = some (.val (.int 40 t))
  g1 : ∃ t, mg "LONGEST_NAME" = some (.int 12 t)
  g2 : ∃ t, mg "LEAST_NODES" = some (.int 2 t)
  g3 : ∃ t, mg "LEAST_LAMPS" = some (.int 1 t)
  g4 : ∃ t, mg "CHARACTERS" = some (.str "abcdefghijklmnopqrstuvwxyz0123456789" t)
  g5 : ∃ a, mg "WHENS" = some (.ref a) ∧ ∀ H, SqT K H a ([makeS, breakS].map V.str)
  g6 : ∃ a, mg "WAYS" = some (.ref a) ∧ ∀ H, SqT K H a ([bothS, forwardS].map V.str)
  len : mg "len" = none
  all : mg "all" = none
  tup : mg "tuple" = none
  enu : mg "enumerate" = none
section
variable {P : Program} {w : World} {K : PySem.W.Frag} {mg : Str → Option Value} {base : Heap}
/-! ### is_good_name -/
def spIsName : Sp := fun vs H Q _ => ∃ z : Str, vs = [.str z] ∧ z.length ≤ 1000000 ∧ ∀ H', Same H H' → Q (.bl (isNm z)) H'
theorem scIsName : FnScope ["text", "letter"] ["text"] (defScope sIsGoodName) := ⟨rfl, rfl, rfl, by decide +kernel, rfl, by decide +kernel, by decide +kernel⟩
theorem ok_isName {f C sp sg : Addr} {mc : Value} {fd : FuncData} {k : Nat} (F : Fun K "is_good_name" "is_good_name" sIsGoodName f fd) (T : BTxt K mg C mc sp sg) : FnOk P w K mg base CX0 (k + 1) f fd ["text"] spIsName := by
  obtain ⟨t1, g1⟩ := T.g1
  obtain ⟨t4, g4⟩ := T.g4
  refine F.ok scIsName (fun vs H Q E h => ?_) (fun cdv A outer s H vs Q E hr h => ?_)
  · obtain ⟨z, rfl, _⟩ := h
    rfl
  · obtain ⟨z, rfl, hz, q⟩ := h
    refine ⟨_, pss_one (ps_ret (pe_and (pe_chain op_le op_le pe_int (pe_callB call_len_str (by rfl) T.len PySem.boot_len (pa_cons (pv 0) pa_nil)) (pe_glob (v := .int 12) rfl g1 ⟨_, rfl⟩))
      (pe_one (pe_callB (cr_all rfl) (by rfl) T.all (by decide +kernel) (pa_cons (pe_lc (own := [("letter", 1)]) (g := gName 1) (tt := tYes) rfl scIsName.nd (pi_str (pv 0)) (blkOk_by (N := ["text", "letter"]) (sc := defScope sIsGoodName) (by decide +kernel)) (fun _ _ _ _ _ => pg_name (i := 1) scIsName.nd rfl (Or.inl rfl)) (fun _ _ _ _ _ => pts_nil)
        (fun _ _ _ _ _ => pe_cmpR op_in_sign (pv 1) (pe_glob (v := .str "abcdefghijklmnopqrstuvwxyz0123456789") rfl g4 ⟨_, rfl⟩) (by rfl))) pa_nil))))), ?_⟩
    refine ⟨_, rfl, z, rfl, szl hz, _, _, rfl, rfl, _, rfl, ?_⟩
    refine ite2 (fun h1 => ?_) (fun h1 => ?_)
    · have h1' : 1 ≤ z.length := by
        have := of_decide_eq_true h1
        omega
      refine ⟨_, _, rfl, rfl, _, rfl, ?_⟩
      refine ite2 (fun h2 => ?_) (fun h2 => ?_)
      · have h2' : z.length ≤ 12 := by
          have := of_decide_eq_true h2
          omega
        refine ⟨_, rfl, _, rfl, fun D hD => ?_⟩
        refine lc_it walk_str (fun i H2 => Same H H2 ∧ H2 D = some (.lst (((z.cps.toList.take i).map fun c => decide (c ∈ alph)).map V.bl)))
          ⟨same_upd hD, upd_same⟩ (fun _ _ _ _ => True.intro) ?_ ?_
        · rintro i x H2 H3 hi ⟨sm, hd⟩ ⟨rfl, c, hc, rfl⟩
          have hc' : z.cps.toList[i]? = some c := by
            rw [Array.getElem?_toList]
            exact hc
          refine ⟨rfl, ?_⟩
          refine yesT ?_
          refine ⟨_, rfl, c, _, rfl, rfl, _, hd, ?_, same_mut sm hD, ?_⟩
          · rw [List.length_map, List.length_map, List.length_take]
            exact szlt (by have := len_tl z; omega)
          · rw [upd_same, List.take_add_one, hc', Option.toList_some, map_snoc, map_snoc]
            rfl
        · rintro H2 ⟨sm, hd⟩
          refine ⟨D, _, rfl, sq hd, ?_⟩
          have e : (((z.cps.toList.take z.cps.size).map fun c => decide (c ∈ alph)).all id) = isNm z := by
            unfold isNm
            rw [show z.cps.size = z.cps.toList.length by simp, List.take_length, decide_eq_true h1', decide_eq_true h2', Bool.true_and, Bool.true_and, List.all_map]
            rfl
          rw [e]
          exact q H2 sm
      · have h2' : ¬ z.length ≤ 12 := by
          have := of_decide_eq_false (Bool.eq_false_iff.mpr h2)
          omega
        have e : isNm z = false := by
          unfold isNm
          rw [decide_eq_false h2', Bool.false_and, Bool.and_false]
        rw [← e]
        exact q H (Same.refl H)
    · have h1' : ¬ 1 ≤ z.length := by
        have := of_decide_eq_false (Bool.eq_false_iff.mpr h1)
        omega
      have e : isNm z = false := by
        unfold isNm
        rw [decide_eq_false h1', Bool.false_and]
      refine ⟨_, rfl, ?_⟩
      refine iteF ?_
      rw [← e]
      exact q H (Same.refl H)
/-! ### are_names -/
def spAreNames (K : PySem.W.Frag) : Sp := fun vs H Q _ => ∃ (a : Addr) (zs : List Str) (lo hi : Nat), vs = [.ref a, .int lo, .int hi] ∧ Sq K H a (zs.map V.str) ∧ (∀ z ∈ zs, z.length ≤ 1000000) ∧ zs.length ≤ 1000 ∧ ∀ H', Same H H' → Q (.bl (areNm zs lo hi)) H'
theorem scAreNames : FnScope ["names", "least", "most", "number", "name"] ["names", "least", "most"] (defScope sAreNames) := ⟨rfl, rfl, rfl, by decide +kernel, rfl, by decide +kernel, by decide +kernel⟩
theorem areNm_bad {zs : List Str} {lo hi i : Nat} {z : Str} (hz : zs[i]? = some z) (h : isNm z = false ∨ z ∈ zs.take i) : areNm zs lo hi = false := by
  rw [← Bool.not_eq_true]
  intro e
  unfold areNm at e
  simp only [Bool.and_eq_true, decide_eq_true_eq, List.all_eq_true] at e
  have hm : z ∈ zs := List.mem_of_getElem? hz
  rcases h with h | h
  · rw [e.1 z hm] at h
    cases h
  · obtain ⟨j, hj⟩ := List.mem_iff_getElem?.mp h
    have hjl : j < (zs.take i).length := (List.getElem?_eq_some_iff.mp hj).1
    rw [List.length_take] at hjl
    rw [List.getElem?_take_of_lt (by omega)] at hj
    have := nd_ix e.2.1 hz hj
    omega
theorem areNm_good {zs : List Str} {lo hi : Nat} (h : ∀ i z, zs[i]? = some z → isNm z = true ∧ z ∉ zs.take i) : areNm zs lo hi = (decide (lo ≤ zs.length) && decide (zs.length ≤ hi)) := by
  have e1 : zs.all isNm = true := by
    rw [List.all_eq_true]
    intro z hz
    obtain ⟨i, hi⟩ := List.mem_iff_getElem?.mp hz
    exact (h i z hi).1
  have e2 : zs.Nodup := by
    refine List.pairwise_iff_getElem.mpr fun i j hi hj hij e => ?_
    refine (h j _ (List.getElem?_eq_getElem hj)).2 (List.mem_iff_getElem?.mpr ⟨i, ?_⟩)
    rw [List.getElem?_take_of_lt hij, List.getElem?_eq_getElem hi, e]
  unfold areNm
  rw [e1, decide_eq_true e2, Bool.true_and, Bool.true_and]
theorem ok_areNames {f fI C sp sg : Addr} {mc : Value} {fd fdI : FuncData} {k : Nat} (F : Fun K "are_names" "are_names" sAreNames f fd) (T : BTxt K mg C mc sp sg) (FI : Fun K "is_good_name" "is_good_name" sIsGoodName sg fdI) (bI : Binds K fdI ["text"] []) :
    FnOk P w K mg base CX0 (k + 2) f fd ["names", "least", "most"] (spAreNames K) := by
  have GI : FnOk P w K mg base CX0 (k + 1) sg fdI ["text"] spIsName := ok_isName FI T
  refine F.ok scAreNames (fun vs H Q E h => ?_) (fun cdv A outer s H vs Q E hr h => ?_)
  · obtain ⟨a, zs, lo, hi, rfl, _⟩ := h
    rfl
  · obtain ⟨a, zs, lo, hi, rfl, hq, hz, hl, q⟩ := h
    refine ⟨_, pss_cons (ps_for PassesOwn.never rfl (pi_enumA rfl T.enu (pa_cons (pv 0) pa_nil)) (pg_tup rfl (pgs_cons (pg_name (i := 3) scAreNames.nd rfl (.inl rfl)) (pgs_cons (pg_name (i := 4) scAreNames.nd rfl (.inl rfl)) pgs_nil)))
        (pss_one (ps_if (PW.pt (pw_or (pt_not (pt_val (pe_call GI hr (by rfl) T.gI FI.kp bI .nil pass0 (pa_cons (pv 4) pa_nil)))) (pw_or1 (pt_cmpR op_in_seq (pv 4) (pe_slice sl_any (pv 0) po_none (po_some (pv 3))) (by rfl)))))
          (pss_one (ps_ret pe_bl)) pss_nil)))
      (pss_one (ps_ret (pe_chain op_le op_le (pv 1) (pe_callB call_len_seq (by rfl) T.len PySem.boot_len (pa_cons (pv 0) pa_nil)) (pv 2)))), ?_⟩
    rcases hq with hq | hq
    all_goals
      first
      | refine ⟨_, rfl, a, zs.map V.str, rfl, .inl ⟨hq, for_it walk_enum (fun i σ H2 => ∃ z3 z4 : Option V, σ = [some (.ref a), some (.int lo), some (.int hi), z3, z4] ∧ Same H H2 ∧ ∀ j z, j < i → zs[j]? = some z → isNm z = true ∧ z ∉ zs.take j)
          ⟨none, none, rfl, Same.refl H, fun j z hj => absurd hj (Nat.not_lt_zero _)⟩ (fun _ _ _ _ ⟨_, _, _, sm, _⟩ => sm.seq hq) ?_ ?_⟩⟩
      | refine ⟨_, rfl, a, zs.map V.str, rfl, .inr ⟨hq, for_it walk_enumT (fun i σ H2 => ∃ z3 z4 : Option V, σ = [some (.ref a), some (.int lo), some (.int hi), z3, z4] ∧ Same H H2 ∧ ∀ j z, j < i → zs[j]? = some z → isNm z = true ∧ z ∉ zs.take j)
          ⟨none, none, rfl, Same.refl H, fun j z hj => absurd hj (Nat.not_lt_zero _)⟩ (fun _ _ _ _ ⟨_, _, _, sm, _⟩ => Same.sqt sm hq) ?_ ?_⟩⟩
      · rintro i v σ H2 H3 hi' ⟨z3, z4, rfl, sm, good⟩ ⟨t, x, y, rfl, nt, rfl, hx, hy⟩
        cases hx
        rw [List.length_map] at hi'
        have hzi : zs[i]? = some zs[i] := List.getElem?_eq_getElem hi'
        have ey : y = .str zs[i] := by
          have hy : (zs.map V.str)[i]? = some y := hy
          rw [List.getElem?_map, hzi] at hy
          exact (Option.some.inj hy).symm
        subst ey
        have s2 : Same H (upd H2 t (.tup [.int (i : Nat), .str zs[i]])) := sm.trans (same_upd nt)
        refine ⟨t, _, rfl, st upd_same, rfl, _, _, rfl, _, _, rfl, rfl, ?_⟩
        refine ⟨_, rfl, zs[i], rfl, hz _ (List.getElem_mem hi'), fun H4 s4 => ⟨_, rfl, ?_⟩⟩
        have s24 := s2.trans s4
        cases en : isNm zs[i] with
        | false =>
          refine iteT ?_
          refine iteT ?_
          have e := areNm_bad (lo := lo) (hi := hi) hzi (.inl en)
          rw [← e]
          exact q _ s24
        | true =>
          refine iteF ?_
          refine ⟨_, rfl, _, rfl, _, rfl, (i : Int), rfl, ?_⟩
          refine cut_any (by first | exact .inl (s24.seq hq) | exact .inr (Same.sqt s24 hq)) fun p H5 s5 hp _ => ?_
          have s25 := s24.trans s5
          rw [cut_list, ← List.map_take] at hp
          refine ⟨p, _, rfl, hp, rfl, flat_strs _, _, rfl, ?_⟩
          rw [if_neg Bool.false_ne_true, inV_str]
          refine ite2 (fun e => ?_) (fun e => ?_)
          · have e2 := areNm_bad (lo := lo) (hi := hi) hzi (.inr (of_decide_eq_true e))
            rw [← e2]
            exact q _ s25
          · refine ⟨_, _, rfl, s25, fun j z hj hzj => ?_⟩
            by_cases ej : j = i
            · subst ej
              rw [hzi] at hzj
              cases hzj
              exact ⟨en, of_decide_eq_false (Bool.eq_false_iff.mpr e)⟩
            · exact good j z (by omega) hzj
      · rintro σ H2 ⟨z3, z4, rfl, sm, good⟩
        rw [List.length_map] at good
        have e := areNm_good (lo := lo) (hi := hi) fun i z hi => good i z (List.getElem?_eq_some_iff.mp hi).1 hi
        refine ⟨_, rfl, _, rfl, a, _, rfl, (by first | exact .inl (sm.seq hq) | exact .inr (Same.sqt sm hq)), _, _, rfl, rfl, _, rfl, ?_⟩
        rw [List.length_map]
        refine ite2 (fun h1 => ?_) (fun h1 => ?_)
        · have h1' : lo ≤ zs.length := by
            have := of_decide_eq_true h1
            omega
          refine ⟨_, rfl, _, _, rfl, rfl, ?_⟩
          have e3 : areNm zs lo hi = decide ((zs.length : Int) ≤ (hi : Int)) := by
            rw [e, decide_eq_true h1', Bool.true_and]
            exact decide_eq_decide.mpr (by omega)
          show Q (V.bl (decide ((zs.length : Int) ≤ (hi : Int)))) _
          rw [← e3]
          exact q _ sm
        · have h1' : ¬ lo ≤ zs.length := by
            have := of_decide_eq_false (Bool.eq_false_iff.mpr h1)
            omega
          have e3 : areNm zs lo hi = false := by
            rw [e, decide_eq_false h1', Bool.false_and]
          rw [← e3]
          exact q _ sm
/-! ### is_span, is_contact -/
theorem dec_f {b : Bool} {A : Prop} [Decidable A] (h : ¬ A) : (decide A && b) = false := by rw [decide_eq_false h, Bool.false_and]
theorem ndt {c : Prop} [Decidable c] (h : (decide c) = true) : c := of_decide_eq_true h
theorem ndf {c : Prop} [Decidable c] (h : ¬ (decide c) = true) : ¬ c := of_decide_eq_false (Bool.eq_false_iff.mpr h)
def spIsSpan (K : PySem.W.Frag) : Sp := fun vs H Q _ => ∃ (t b : Addr) (r : Sp3) (ns : List Str), vs = [.ref t, .ref b] ∧ SqT K H t r.row ∧ Sq K H b (ns.map V.str) ∧ r.nm.length ≤ 1000000 ∧ ∀ H', Same H H' → Q (.bl (spanB ns r)) H'
theorem scIsSpan : FnScope ["part", "nodes", "name", "one", "other"] ["part", "nodes"] (defScope sIsSpan) := ⟨rfl, rfl, rfl, by decide +kernel, rfl, by decide +kernel, by decide +kernel⟩
theorem ok_isSpan {f C sp sg : Addr} {mc : Value} {fd fdI : FuncData} {k : Nat} (F : Fun K "is_span" "is_span" sIsSpan f fd) (T : BTxt K mg C mc sp sg) (FI : Fun K "is_good_name" "is_good_name" sIsGoodName sg fdI) (bI : Binds K fdI ["text"] []) :
    FnOk P w K mg base CX0 (k + 2) f fd ["part", "nodes"] (spIsSpan K) := by
  have GI : FnOk P w K mg base CX0 (k + 1) sg fdI ["text"] spIsName := ok_isName FI T
  refine F.ok scIsSpan (fun vs H Q E h => ?_) (fun cdv A outer s H vs Q E hr h => ?_)
  · obtain ⟨t, b, r, ns, rfl, _⟩ := h
    rfl
  · obtain ⟨t, b, r, ns, rfl, ht, hb, hl, q⟩ := h
    refine ⟨_, pss_cons (ps_if (pt_cmpR op_ne (pe_callB call_len_seq (by rfl) T.len PySem.boot_len (pa_cons (pv 0) pa_nil)) pe_int (nomark _)) (pss_one (ps_ret pe_bl)) pss_nil)
      (pss_cons (ps_asg (pv 0) (pg_tup rfl (pgs_cons (pg_name (i := 2) scIsSpan.nd rfl (.inl rfl)) (pgs_cons (pg_name (i := 3) scIsSpan.nd rfl (.inl rfl)) (pgs_cons (pg_name (i := 4) scIsSpan.nd rfl (.inl rfl)) pgs_nil)))))
      (pss_one (ps_ret (pe_and (pe_call GI hr (by rfl) T.gI FI.kp bI .nil pass0 (pa_cons (pv 2) pa_nil))
        (pe_and (pe_cmpR op_in_seq (pv 3) (pv 1) (by rfl)) (pe_and (pe_cmpR op_in_seq (pv 4) (pv 1) (by rfl)) (pe_one (pe_cmpR op_ne (pv 3) (pv 4) (nomark _))))))))), ?_⟩
    refine ⟨_, rfl, t, _, rfl, .inr ht, rfl, _, rfl, ?_⟩
    refine iteF ?_
    refine ⟨_, rfl, t, _, rfl, ht, rfl, _, _, rfl, _, _, rfl, _, _, rfl, rfl, ?_⟩
    refine ⟨_, rfl, r.nm, rfl, hl, fun H1 s1 => ⟨_, rfl, ?_⟩⟩
    have e0 : spanB ns r = (isNm r.nm && (decide (r.one ∈ ns) && (decide (r.oth ∈ ns) && !decide (r.one = r.oth)))) := rfl
    refine ite2 (fun h1 => ?_) (fun h1 => ?_)
    · rw [h1, Bool.true_and] at e0
      refine ⟨_, rfl, _, rfl, b, _, rfl, Same.sq s1 hb, rfl, flat_strs _, _, rfl, ?_⟩
      rw [if_neg Bool.false_ne_true, inV_str]
      refine ite2 (fun h2 => ?_) (fun h2 => ?_)
      · rw [h2, Bool.true_and] at e0
        refine ⟨_, rfl, _, rfl, b, _, rfl, Same.sq s1 hb, rfl, flat_strs _, _, rfl, ?_⟩
        rw [if_neg Bool.false_ne_true, inV_str]
        refine ite2 (fun h3 => ?_) (fun h3 => ?_)
        · rw [h3, Bool.true_and] at e0
          refine ⟨_, rfl, _, rfl, rfl, ?_⟩
          have e1 : (!decide (V.str r.one = V.str r.oth)) = spanB ns r := by
            rw [e0]
            congr 1
            exact decide_eq_decide.mpr ⟨V.str.inj, congrArg V.str⟩
          show Q (V.bl (!decide (V.str r.one = V.str r.oth))) _
          rw [e1]
          exact q _ s1
        · rw [Bool.eq_false_iff.mpr h3, Bool.false_and] at e0
          show Q (V.bl false) _
          rw [← e0]
          exact q _ s1
      · rw [Bool.eq_false_iff.mpr h2, Bool.false_and] at e0
        show Q (V.bl false) _
        rw [← e0]
        exact q _ s1
    · rw [Bool.eq_false_iff.mpr h1, Bool.false_and] at e0
      show Q (V.bl false) _
      rw [← e0]
      exact q _ s1
def spIsContact (K : PySem.W.Frag) : Sp := fun vs H Q _ => ∃ (t b m : Addr) (c : Ct) (ns ms : List Str), vs = [.ref t, .ref b, .ref m] ∧ SqT K H t c.row ∧ Sq K H b (ns.map V.str) ∧ Sq K H m (ms.map V.str) ∧ ∀ H', Same H H' → Q (.bl (ctB ns ms c)) H'
theorem scIsContact : FnScope ["part", "nodes", "movers", "one", "other", "mover", "when", "way"] ["part", "nodes", "movers"] (defScope sIsContact) := ⟨rfl, rfl, rfl, by decide +kernel, rfl, by decide +kernel, by decide +kernel⟩
theorem ok_isContact {f C sp sg : Addr} {mc : Value} {fd : FuncData} {k : Nat} (F : Fun K "is_contact" "is_contact" sIsContact f fd) (T : BTxt K mg C mc sp sg) : FnOk P w K mg base CX0 (k + 1) f fd ["part", "nodes", "movers"] (spIsContact K) := by
  obtain ⟨aW, g5, hW⟩ := T.g5
  obtain ⟨aY, g6, hY⟩ := T.g6
  refine F.ok scIsContact (fun vs H Q E h => ?_) (fun cdv A outer s H vs Q E hr h => ?_)
  · obtain ⟨t, b, m, c, ns, ms, rfl, _⟩ := h
    rfl
  · obtain ⟨t, b, m, c, ns, ms, rfl, ht, hb, hm, q⟩ := h
    refine ⟨_, pss_cons (ps_if (pt_cmpR op_ne (pe_callB call_len_seq (by rfl) T.len PySem.boot_len (pa_cons (pv 0) pa_nil)) pe_int (nomark _)) (pss_one (ps_ret pe_bl)) pss_nil)
      (pss_cons (ps_asg (pv 0) (pg_tup rfl (pgs_cons (pg_name (i := 3) scIsContact.nd rfl (.inl rfl)) (pgs_cons (pg_name (i := 4) scIsContact.nd rfl (.inl rfl)) (pgs_cons (pg_name (i := 5) scIsContact.nd rfl (.inl rfl)) (pgs_cons (pg_name (i := 6) scIsContact.nd rfl (.inl rfl)) (pgs_cons (pg_name (i := 7) scIsContact.nd rfl (.inl rfl)) pgs_nil)))))))
      (pss_cons (ps_if (PW.pt (pw_or (pt_cmpR op_notIn_seq (pv 3) (pv 1) (by rfl)) (pw_or (pt_cmpR op_notIn_seq (pv 4) (pv 1) (by rfl)) (pw_or1 (pt_cmpR op_eq (pv 3) (pv 4) (nomark _)))))) (pss_one (ps_ret pe_bl)) pss_nil)
      (pss_cons (ps_if (pt_cmpR op_isN (pv 5) pe_non (nomark _)) (pss_one (ps_ret (pe_and (pe_cmpR op_eq (pv 6) pe_str (nomark _)) (pe_one (pe_cmpR op_in_seq (pv 7) (pe_glob (v := .ref aY) rfl g6 rfl) (by rfl)))))) pss_nil)
      (pss_one (ps_ret (pe_and (pe_cmpR op_in_seq (pv 5) (pv 2) (by rfl)) (pe_and (pe_cmpR op_in_seq (pv 6) (pe_glob (v := .ref aW) rfl g5 rfl) (by rfl)) (pe_one (pe_cmpR op_in_seq (pv 7) (pe_glob (v := .ref aY) rfl g6 rfl) (by rfl)))))))))), ?_⟩
    refine ⟨_, rfl, t, _, rfl, .inr ht, rfl, _, rfl, ?_⟩
    refine iteF ?_
    refine ⟨_, rfl, t, _, rfl, ht, rfl, _, _, rfl, _, _, rfl, _, _, rfl, _, _, rfl, _, _, rfl, rfl, ?_⟩
    have q' := q H (Same.refl H)
    unfold ctB at q'
    refine ⟨_, rfl, _, rfl, b, _, rfl, hb, rfl, flat_strs _, _, rfl, ?_⟩
    rw [if_pos rfl, inV_str]
    by_cases h1 : c.one ∈ ns
    · rw [decide_eq_true h1] at q' ⊢
      refine iteF ?_
      refine ⟨_, rfl, _, rfl, b, _, rfl, hb, rfl, flat_strs _, _, rfl, ?_⟩
      rw [if_pos rfl, inV_str]
      by_cases h2 : c.oth ∈ ns
      · rw [decide_eq_true h2] at q' ⊢
        refine iteF ?_
        refine ⟨_, rfl, _, rfl, rfl, _, rfl, ?_⟩
        by_cases h3 : c.one = c.oth
        · rw [decide_eq_true (congrArg V.str h3)]
          rw [decide_eq_true h3] at q'
          refine iteT ?_
          exact q'
        · rw [decide_eq_false (fun z => h3 (V.str.inj z))]
          rw [decide_eq_false h3] at q'
          refine iteF ?_
          refine ⟨_, rfl, rfl, _, rfl, ?_⟩
          cases em : c.mv with
          | none =>
            rw [em] at q'
            have e1 : decide (mvV none = V.non) = true := rfl
            rw [e1]
            refine iteT ?_
            refine ⟨_, rfl, rfl, _, rfl, ?_⟩
            by_cases h4 : c.whn = makeS
            · rw [decide_eq_true h4] at q'
              rw [show decide (V.str c.whn = V.str "make") = true from decide_eq_true (congrArg V.str h4)]
              refine iteT ?_
              refine ⟨_, rfl, aY, _, rfl, .inr (hY _), rfl, flat_strs _, ?_⟩
              rw [if_neg Bool.false_ne_true, inV_str]
              exact q'
            · rw [decide_eq_false h4] at q'
              rw [show decide (V.str c.whn = V.str "make") = false from decide_eq_false fun z => h4 (V.str.inj z)]
              refine iteF ?_
              exact q'
          | some mo =>
            rw [em] at q'
            dsimp only at q'
            have e1 : decide (mvV (some mo) = V.non) = false := decide_eq_false fun z => by cases z
            rw [e1]
            refine iteF ?_
            refine ⟨_, rfl, _, rfl, m, _, rfl, hm, rfl, flat_strs _, _, rfl, ?_⟩
            rw [if_neg Bool.false_ne_true]
            show if inV (V.str mo) (ms.map V.str) = true then _ else _
            rw [inV_str]
            by_cases h4 : mo ∈ ms
            · rw [decide_eq_true h4] at q' ⊢
              refine iteT ?_
              refine ⟨_, rfl, aW, _, rfl, .inr (hW _), rfl, flat_strs _, _, rfl, ?_⟩
              rw [if_neg Bool.false_ne_true, inV_str]
              by_cases h5 : c.whn ∈ [makeS, breakS]
              · rw [decide_eq_true h5] at q' ⊢
                refine iteT ?_
                refine ⟨_, rfl, aY, _, rfl, .inr (hY _), rfl, flat_strs _, ?_⟩
                rw [if_neg Bool.false_ne_true, inV_str]
                exact q'
              · rw [decide_eq_false h5] at q' ⊢
                refine iteF ?_
                exact q'
            · rw [decide_eq_false h4] at q' ⊢
              refine iteF ?_
              exact q'
      · rw [decide_eq_false h2] at q' ⊢
        refine iteT ?_
        refine iteT ?_
        exact q'
    · rw [decide_eq_false h1] at q' ⊢
      refine iteT ?_
      refine iteT ?_
      exact q'
/-! ### the fields of a board -/
theorem putF_len (f : Str) (v : V) : ∀ fs : List (Str × V), (putF f v fs).length ≤ fs.length + 1
  | [] => Nat.le_refl _
  | (g, x) :: r => by
    show (if g = f then (g, v) :: r else (g, x) :: putF f v r).length ≤ r.length + 1 + 1
    split
    · exact Nat.le_succ _
    · exact Nat.succ_le_succ (putF_len f v r)
theorem cat_any {K : PySem.W.Frag} {a b : Addr} {xs ys : List V} {H : Hp} {Q : VK} (h1 : SqT K H a xs) (h2 : SqT K H b ys) (hl : xs.length + ys.length ≤ 1000000) (q : ∀ p H', Same H H' → SqT K H' p (xs ++ ys) → Q (.ref p) H') : rCatA K (.ref a) (.ref b) H Q := by
  refine ⟨a, b, xs, ys, rfl, rfl, h1, h2, szl hl, fun e => q b H (Same.refl H) (by rw [e]; exact h2), fun _ e => q a H (Same.refl H) (by rw [e, List.append_nil]; exact h1), fun _ _ p np => q p _ (same_upd np) (st upd_same)⟩
structure Fl (K : PySem.W.Frag) (H : Hp) (fs : List (Str × V)) (b : Bd) (tn ts tr tl tc : Addr) (xr xl xc : List V) : Prop where
  ln : fs.lookup ("nodes" : Str) = some (.ref tn)
  ls : fs.lookup ("switches" : Str) = some (.ref ts)
  lr : fs.lookup ("relays" : Str) = some (.ref tr)
  ll : fs.lookup ("lamps" : Str) = some (.ref tl)
  lc : fs.lookup ("contacts" : Str) = some (.ref tc)
  hn : SqT K H tn (b.nodes.map V.str)
  hs : SqT K H ts (b.switches.map V.str)
  hr : SqT K H tr xr
  hl : SqT K H tl xl
  hc : SqT K H tc xc
  rr : Rows K H xr (b.relays.map Sp3.row)
  rl : Rows K H xl (b.lamps.map Sp3.row)
  rc : Rows K H xc (b.contacts.map Ct.row)
theorem Fl.mono {K : PySem.W.Frag} {H H' : Hp} {fs : List (Str × V)} {b : Bd} {tn ts tr tl tc : Addr} {xr xl xc : List V} (s : Same H H') (f : Fl K H fs b tn ts tr tl tc xr xl xc) : Fl K H' fs b tn ts tr tl tc xr xl xc :=
  ⟨f.ln, f.ls, f.lr, f.ll, f.lc, Same.sqt s f.hn, Same.sqt s f.hs, Same.sqt s f.hr, Same.sqt s f.hl, Same.sqt s f.hc, f.rr.mono s, f.rl.mono s, f.rc.mono s⟩
/-- b with as few parts as a board may have at most -/
structure Few (b : Bd) : Prop where
  n : b.nodes.length ≤ 1000
  s : b.switches.length ≤ 1000
  r : b.relays.length ≤ 1000
  l : b.lamps.length ≤ 1000
  c : b.contacts.length ≤ 1000
  nz : ∀ z ∈ b.nodes, z.length ≤ 1000000
  sz : ∀ z ∈ b.switches, z.length ≤ 1000000
  rz : ∀ r ∈ b.relays, r.nm.length ≤ 1000000
  lz : ∀ r ∈ b.lamps, r.nm.length ≤ 1000000
def onlyNames : List Str := ["nodes", "switches", "relays", "lamps", "contacts", "_movers"]
/-- the board b stands at p -/
def BoardAt (K : PySem.W.Frag) (C : Addr) (H : Hp) (p : Addr) (b : Bd) : Prop := ∃ (dx : Addr) (fs : List (Str × V)) (tn ts tr tl tc tm : Addr) (xr xl xc : List V), H p = some (.ins C dx fs) ∧ Fl K H fs b tn ts tr tl tc xr xl xc ∧
  fs.lookup ("_movers" : Str) = some (.ref tm) ∧ SqT K H tm (b.movers.map V.str) ∧ ∀ m, m ∉ onlyNames → fs.lookup m = none
theorem BoardAt.mono {K : PySem.W.Frag} {C : Addr} {H H' : Hp} {p : Addr} {b : Bd} (s : Same H H') : BoardAt K C H p b → BoardAt K C H' p b
  | ⟨dx, fs, tn, ts, tr, tl, tc, tm, xr, xl, xc, hp, f, lm, hm, o⟩ => ⟨dx, fs, tn, ts, tr, tl, tc, tm, xr, xl, xc, s _ _ hp, f.mono s, lm, Same.sqt s hm, o⟩
/-! ### the three checks -/
def spSpans (K : PySem.W.Frag) (C : Addr) : Sp := fun vs H Q _ => ∃ (p dx : Addr) (fs : List (Str × V)) (b : Bd) (tn ts tr tl tc : Addr) (xr xl xc : List V), vs = [.ref p] ∧ H p = some (.ins C dx fs) ∧ Fl K H fs b tn ts tr tl tc xr xl xc ∧ Few b ∧
  (∀ r ∈ b.relays, spanB b.nodes r = true) ∧ (∀ r ∈ b.lamps, spanB b.nodes r = true) ∧ ∀ H', Same H H' → Q .non H'
theorem scSpans : FnScope ["self", "part"] ["self"] (defScope sBoardCheckSpans) := ⟨rfl, rfl, rfl, by decide +kernel, rfl, by decide +kernel, by decide +kernel⟩
theorem ok_spans {f fS C sp sg : Addr} {mc : Value} {fd fdS fdI : FuncData} {k : Nat} (F : Fun K "_check_spans" "Board._check_spans" sBoardCheckSpans f fd) (T : BTxt K mg C mc sp sg)
    (FS : Fun K "is_span" "is_span" sIsSpan fS fdS) (bS : Binds K fdS ["part", "nodes"] []) (gS : mg "is_span" = some (.ref fS)) (FI : Fun K "is_good_name" "is_good_name" sIsGoodName sg fdI) (bI : Binds K fdI ["text"] []) :
    FnOk P w K mg base CX0 (k + 3) f fd ["self"] (spSpans K C) := by
  have GS : FnOk P w K mg base CX0 (k + 2) fS fdS ["part", "nodes"] (spIsSpan K) := ok_isSpan FS T FI bI
  refine F.ok scSpans (fun vs H Q E h => ?_) (fun cdv A outer s H vs Q E hr h => ?_)
  · obtain ⟨p, _, _, _, _, _, _, _, _, _, _, _, rfl, _⟩ := h
    rfl
  · obtain ⟨p, dx, fs, b, tn, ts, tr, tl, tc, xr, xl, xc, rfl, hp, f, few, okr, okl, q⟩ := h
    refine ⟨_, pss_one (ps_for PassesOwn.never rfl (pi_tup (pe_op op_catA (pe_fld (pv 0) rfl) (pe_fld (pv 0) rfl))) (pg_name (i := 1) scSpans.nd rfl (.inl rfl))
      (pss_one (ps_if (pt_not (pt_val (pe_call GS hr (by rfl) gS FS.kp bS .nil pass0 (pa_cons (pv 1) (pa_cons (pe_fld (pv 0) rfl) pa_nil))))) (pss_one ps_never) pss_nil))), ?_⟩
    refine ⟨_, rfl, p, C, dx, _, _, rfl, hp, T.cl, T.nR, f.lr, _, rfl, p, C, dx, _, _, rfl, hp, T.cl, T.nL, f.ll, ?_⟩
    have lr := f.rr.len
    have ll := f.rl.len
    rw [List.length_map] at lr ll
    refine cat_any f.hr f.hl (by have := few.r; have := few.l; omega) fun t H1 s1 ht => ?_
    have rows : Rows K H1 (xr ++ xl) ((b.relays ++ b.lamps).map Sp3.row) := by
      rw [List.map_append]
      exact (f.rr.mono s1).app (f.rl.mono s1)
    refine ⟨t, rfl, ⟨_, ht⟩, for_tup (K := K) (a := t) (xs := xr ++ xl) (fun i σ H2 => ∃ z1 : Option V, σ = [some (.ref p), z1] ∧ Same H1 H2) ⟨none, rfl, Same.refl _⟩ (fun _ _ _ _ ⟨_, _, sm⟩ => Same.sqt sm ht) ?_ ?_⟩
    · rintro i v σ H2 hi ⟨z1, rfl, sm⟩
      obtain ⟨tt, rw_, rfl, hrow, hri⟩ := rows.at hi
      rw [List.getElem?_map] at hri
      obtain ⟨r, hr1, rfl⟩ := Option.map_eq_some_iff.mp hri
      have hm := List.mem_of_getElem? hr1
      have good : spanB b.nodes r = true ∧ r.nm.length ≤ 1000000 := by
        rcases List.mem_append.mp hm with h | h
        · exact ⟨okr r h, few.rz r h⟩
        · exact ⟨okl r h, few.lz r h⟩
      refine ⟨_, rfl, _, rfl, p, C, dx, _, _, rfl, sm _ _ (s1 _ _ hp), T.cl, T.nN, f.ln, tt, tn, r, b.nodes, rfl, Same.sqt sm hrow, .inr (Same.sqt (s1.trans sm) f.hn), good.2, fun H3 s3 => ⟨_, rfl, ?_⟩⟩
      rw [good.1]
      refine iteF ?_
      exact ⟨_, rfl, sm.trans s3⟩
    · rintro σ H2 ⟨z1, rfl, sm⟩
      exact q H2 (s1.trans sm)
def spCtc (K : PySem.W.Frag) (C : Addr) : Sp := fun vs H Q _ => ∃ (p dx : Addr) (fs : List (Str × V)) (b : Bd) (tn ts tr tl tc tm : Addr) (xr xl xc : List V), vs = [.ref p] ∧ H p = some (.ins C dx fs) ∧ Fl K H fs b tn ts tr tl tc xr xl xc ∧
  fs.lookup ("_movers" : Str) = some (.ref tm) ∧ SqT K H tm (b.movers.map V.str) ∧ b.contacts.length ≤ 40 ∧ (∀ c ∈ b.contacts, ctB b.nodes b.movers c = true) ∧ ∀ H', Same H H' → Q .non H'
theorem scCtc : FnScope ["self", "contact"] ["self"] (defScope sBoardCheckContacts) := ⟨rfl, rfl, rfl, by decide +kernel, rfl, by decide +kernel, by decide +kernel⟩
theorem ok_ctc {f fS C sp sg : Addr} {mc : Value} {fd fdS : FuncData} {k : Nat} (F : Fun K "_check_contacts" "Board._check_contacts" sBoardCheckContacts f fd) (T : BTxt K mg C mc sp sg)
    (FS : Fun K "is_contact" "is_contact" sIsContact fS fdS) (bS : Binds K fdS ["part", "nodes", "movers"] []) (gS : mg "is_contact" = some (.ref fS)) : FnOk P w K mg base CX0 (k + 2) f fd ["self"] (spCtc K C) := by
  have GS : FnOk P w K mg base CX0 (k + 1) fS fdS ["part", "nodes", "movers"] (spIsContact K) := ok_isContact FS T
  obtain ⟨t5, c5⟩ := T.c5
  refine F.ok scCtc (fun vs H Q E h => ?_) (fun cdv A outer s H vs Q E hr h => ?_)
  · obtain ⟨p, _, _, _, _, _, _, _, _, _, _, _, _, rfl, _⟩ := h
    rfl
  · obtain ⟨p, dx, fs, b, tn, ts, tr, tl, tc, tm, xr, xl, xc, rfl, hp, f, lm, hm, l40, okc, q⟩ := h
    refine ⟨_, pss_cons (ps_if (pt_cmpR op_gt (pe_callB call_len_seq (by rfl) T.len PySem.boot_len (pa_cons (pe_fld (pv 0) rfl) pa_nil)) (ClX.pe_cval (pe_glob (v := .ref C) rfl T.mgB rfl) rfl) (nomark _)) (pss_one ps_never) pss_nil)
      (pss_one (ps_for PassesOwn.never rfl (pi_tup (pe_fld (pv 0) rfl)) (pg_name (i := 1) scCtc.nd rfl (.inl rfl))
        (pss_one (ps_if (pt_not (pt_val (pe_call GS hr (by rfl) gS FS.kp bS .nil pass0 (pa_cons (pv 1) (pa_cons (pe_fld (pv 0) rfl) (pa_cons (pe_fld (pv 0) rfl) pa_nil)))))) (pss_one ps_never) pss_nil)))), ?_⟩
    have lc := f.rc.len
    rw [List.length_map] at lc
    refine ⟨_, rfl, p, C, dx, _, _, rfl, hp, T.cl, T.nC, f.lc, tc, _, rfl, .inr f.hc, C, mc, .int 40, _, rfl, T.cr, ⟨c5, ⟨_, rfl⟩⟩, _, _, rfl, rfl, _, rfl, ?_⟩
    rw [decide_eq_false (by omega)]
    refine iteF ?_
    refine ⟨_, rfl, p, C, dx, _, _, rfl, hp, T.cl, T.nC, f.lc, tc, rfl, ⟨_, f.hc⟩, for_tup (K := K) (a := tc) (xs := xc) (fun i σ H2 => ∃ z1 : Option V, σ = [some (.ref p), z1] ∧ Same H H2) ⟨none, rfl, Same.refl _⟩ (fun _ _ _ _ ⟨_, _, sm⟩ => Same.sqt sm f.hc) ?_ ?_⟩
    · rintro i v σ H2 hi ⟨z1, rfl, sm⟩
      obtain ⟨tt, rw_, rfl, hrow, hri⟩ := f.rc.at hi
      rw [List.getElem?_map] at hri
      obtain ⟨c, hc1, rfl⟩ := Option.map_eq_some_iff.mp hri
      have hm1 := List.mem_of_getElem? hc1
      refine ⟨_, rfl, _, rfl, p, C, dx, _, _, rfl, sm _ _ hp, T.cl, T.nN, f.ln, _, rfl, p, C, dx, _, _, rfl, sm _ _ hp, T.cl, T.nM, lm, tt, tn, tm, c, b.nodes, b.movers, rfl, Same.sqt sm hrow, .inr (Same.sqt sm f.hn), .inr (Same.sqt sm hm), fun H3 s3 => ⟨_, rfl, ?_⟩⟩
      rw [okc c hm1]
      refine iteF ?_
      exact ⟨_, rfl, sm.trans s3⟩
    · rintro σ H2 ⟨z1, rfl, sm⟩
      exact q H2 sm
def spChk (K : PySem.W.Frag) (C : Addr) : Sp := fun vs H Q _ => ∃ (p dx : Addr) (fs : List (Str × V)) (b : Bd) (tn ts tr tl tc tm : Addr) (xr xl xc : List V), vs = [.ref p] ∧ H p = some (.ins C dx fs) ∧ Fl K H fs b tn ts tr tl tc xr xl xc ∧
  fs.lookup ("_movers" : Str) = some (.ref tm) ∧ SqT K H tm (b.movers.map V.str) ∧ Few b ∧ b.Ok ∧ ∀ H', Same H H' → Q .non H'
theorem scChk : FnScope ["self", "lamps", "name", "_"] ["self"] (defScope sBoardCheckNames) := ⟨rfl, rfl, rfl, by decide +kernel, rfl, by decide +kernel, by decide +kernel⟩
theorem Few.mz {b : Bd} (f : Few b) : ∀ z ∈ b.movers, z.length ≤ 1000000 := fun z hz => by
  unfold Bd.movers at hz
  rcases List.mem_append.mp hz with h | h
  · exact f.sz z h
  · obtain ⟨r, hr, rfl⟩ := List.mem_map.mp h
    exact f.rz r hr
theorem ok_chk {f fA C sp sg : Addr} {mc : Value} {fd fdA fdI : FuncData} {k : Nat} (F : Fun K "_check_names" "Board._check_names" sBoardCheckNames f fd) (T : BTxt K mg C mc sp sg)
    (FA : Fun K "are_names" "are_names" sAreNames fA fdA) (bA : Binds K fdA ["names", "least", "most"] []) (gA : mg "are_names" = some (.ref fA)) (FI : Fun K "is_good_name" "is_good_name" sIsGoodName sg fdI) (bI : Binds K fdI ["text"] []) :
    FnOk P w K mg base CX0 (k + 3) f fd ["self"] (spChk K C) := by
  have GA : FnOk P w K mg base CX0 (k + 2) fA fdA ["names", "least", "most"] (spAreNames K) := ok_areNames FA T FI bI (fI := fA)
  obtain ⟨t1, c1⟩ := T.c1
  obtain ⟨t2, c2⟩ := T.c2
  obtain ⟨t3, c3⟩ := T.c3
  obtain ⟨t4, c4⟩ := T.c4
  obtain ⟨u2, g2⟩ := T.g2
  obtain ⟨u3, g3⟩ := T.g3
  refine F.ok scChk (fun vs H Q E h => ?_) (fun cdv A outer s H vs Q E hr h => ?_)
  · obtain ⟨p, _, _, _, _, _, _, _, _, _, _, _, _, rfl, _⟩ := h
    rfl
  · obtain ⟨p, dx, fs, b, tn, ts, tr, tl, tc, tm, xr, xl, xc, rfl, hp, f, lm, hm, few, ok, q⟩ := h
    refine ⟨_, pss_cons (ps_if (pt_not (pt_val (pe_call GA hr (by rfl) gA FA.kp bA .nil pass0 (pa_cons (pe_fld (pv 0) rfl) (pa_cons (pe_glob (v := .int 2) rfl g2 ⟨_, rfl⟩) (pa_cons (ClX.pe_cval (pe_glob (v := .ref C) rfl T.mgB rfl) rfl) pa_nil)))))) (pss_one ps_never) pss_nil)
      (pss_cons (ps_if (PW.pt (pw_or (pt_cmpR op_gt (pe_callB call_len_seq (by rfl) T.len PySem.boot_len (pa_cons (pe_fld (pv 0) rfl) pa_nil)) (ClX.pe_cval (pe_glob (v := .ref C) rfl T.mgB rfl) rfl) (nomark _))
          (pw_or1 (pt_cmpR op_gt (pe_callB call_len_seq (by rfl) T.len PySem.boot_len (pa_cons (pe_fld (pv 0) rfl) pa_nil)) (ClX.pe_cval (pe_glob (v := .ref C) rfl T.mgB rfl) rfl) (nomark _))))) (pss_one ps_never) pss_nil)
      (pss_cons (ps_if (pt_not (pt_val (pe_call GA hr (by rfl) gA FA.kp bA .nil pass0 (pa_cons (pe_fld (pv 0) rfl) (pa_cons pe_int (pa_cons (pe_callB call_len_seq (by rfl) T.len PySem.boot_len (pa_cons (pe_fld (pv 0) rfl) pa_nil)) pa_nil)))))) (pss_one ps_never) pss_nil)
      (pss_cons (ps_setLc (i := 1) (own := [("name", 2), ("_", 3)]) (g := gTup K 3 (gCons (gName 2) (gCons (gName 3) (gCons (gName 3) gNil)))) (tt := tYes) rfl scChk.nd rfl rfl (sw_true rfl rfl rfl (by decide +kernel)) (pi_tup (pe_fld (pv 0) rfl)) (blkOk_by (N := ["self", "lamps", "name", "_"]) (sc := defScope sBoardCheckNames) (by decide +kernel))
          (fun _ _ _ _ _ => pg_tup rfl (pgs_cons (pg_name (i := 2) scChk.nd rfl (Or.inl rfl)) (pgs_cons (pg_name (i := 3) scChk.nd rfl (Or.inl rfl)) (pgs_cons (pg_name (i := 3) scChk.nd rfl (Or.inl rfl)) pgs_nil)))) (fun _ _ _ _ _ => pts_nil) (fun _ _ _ _ _ => pv 2))
      (pss_one (ps_if (pt_not (pt_val (pe_call GA hr (by rfl) gA FA.kp bA .nil pass0 (pa_cons (pv 1) (pa_cons (pe_glob (v := .int 1) rfl g3 ⟨_, rfl⟩) (pa_cons (ClX.pe_cval (pe_glob (v := .ref C) rfl T.mgB rfl) rfl) pa_nil)))))) (pss_one ps_never) pss_nil))))), ?_⟩
    -- the nodes
    refine ⟨_, rfl, p, C, dx, _, _, rfl, hp, T.cl, T.nN, f.ln, C, mc, .int 16, _, rfl, T.cr, ⟨c1, ⟨_, rfl⟩⟩, tn, b.nodes, 2, 16, rfl, .inr f.hn, few.nz, few.n, fun H1 s1 => ⟨_, rfl, ?_⟩⟩
    rw [ok.nodes]
    refine iteF ?_
    -- the counts
    have lr := f.rr.len
    rw [List.length_map] at lr
    refine ⟨_, rfl, p, C, dx, _, _, rfl, s1 _ _ hp, T.cl, T.nS, f.ls, ts, _, rfl, .inr (Same.sqt s1 f.hs), C, mc, .int 6, _, rfl, T.cr, ⟨c2, ⟨_, rfl⟩⟩, _, _, rfl, rfl, _, rfl, ?_⟩
    rw [decide_eq_false (by rw [List.length_map]; have := ok.sw; omega)]
    refine iteF ?_
    refine ⟨_, rfl, p, C, dx, _, _, rfl, s1 _ _ hp, T.cl, T.nR, f.lr, tr, _, rfl, .inr (Same.sqt s1 f.hr), C, mc, .int 8, _, rfl, T.cr, ⟨c3, ⟨_, rfl⟩⟩, _, _, rfl, rfl, _, rfl, ?_⟩
    rw [decide_eq_false (by have := ok.rl; omega)]
    refine iteF ?_
    -- the movers
    have ml : b.movers.length ≤ 1000 := by
      unfold Bd.movers
      rw [List.length_append, List.length_map]
      have := ok.sw
      have := ok.rl
      omega
    refine ⟨_, rfl, p, C, dx, _, _, rfl, s1 _ _ hp, T.cl, T.nM, lm, _, rfl, p, C, dx, _, _, rfl, s1 _ _ hp, T.cl, T.nM, lm, tm, _, rfl, .inr (Same.sqt s1 hm), tm, b.movers, 0, b.movers.length, by rw [List.length_map]; rfl, .inr (Same.sqt s1 hm), few.mz, ml, fun H2 s2 => ⟨_, rfl, ?_⟩⟩
    rw [ok.mv]
    refine iteF ?_
    have s12 := s1.trans s2
    -- the lamps
    have ll := f.rl.len
    rw [List.length_map] at ll
    refine ⟨_, rfl, p, C, dx, _, _, rfl, s12 _ _ hp, T.cl, T.nL, f.ll, tl, rfl, ⟨_, Same.sqt s12 f.hl⟩, fun D hD => ?_⟩
    refine lc_tup (K := K) (a := tl) (xs := xl) (fun i H3 => Same H2 H3 ∧ H3 D = some (.lst (((b.lamps.map (·.nm)).take i).map V.str)))
      ⟨same_upd hD, upd_same⟩ (fun i H3 _ h => Same.sqt (s12.trans h.1) f.hl) ?_ ?_
    · rintro i v H3 hi ⟨sm, hd⟩
      have hil := (List.getElem?_eq_some_iff.mp hi).1
      obtain ⟨tt, rw_, rfl, hrow, hri⟩ := f.rl.at hi
      rw [List.getElem?_map] at hri
      obtain ⟨r, hr1, rfl⟩ := Option.map_eq_some_iff.mp hri
      refine ⟨tt, _, rfl, Same.sqt (s12.trans sm) hrow, rfl, _, _, rfl, _, _, rfl, _, _, rfl, rfl, rfl, ?_⟩
      refine yesT ?_
      refine ⟨_, rfl, _, hd, ?_, same_mut sm hD, ?_⟩
      · rw [List.length_map, List.length_take]
        have := few.l
        exact szlt (by rw [List.length_map]; omega)
      · rw [upd_same, ← map_snoc, List.take_add_one, List.getElem?_map, hr1]
        rfl
    · rintro H3 ⟨sm, hd⟩
      rw [ll, ← List.length_map (f := fun r : Sp3 => r.nm), List.take_length] at hd
      refine ⟨_, rfl, C, mc, .int 8, _, rfl, T.cr, ⟨c4, ⟨_, rfl⟩⟩, D, b.lamps.map (·.nm), 1, 8, rfl, .inl (sq hd), fun z hz => ?_, by rw [List.length_map]; exact few.l, fun H4 s4 => ⟨_, rfl, ?_⟩⟩
      · obtain ⟨r, hr1, rfl⟩ := List.mem_map.mp hz
        exact few.lz r hr1
      · rw [ok.lp]
        refine iteF ?_
        exact q H4 ((s12.trans sm).trans s4)
/-! ### Board.__init__ -/
def KeepP (p : Addr) (H H' : Hp) : Prop := ∀ a o, a ≠ p → H a = some o → H' a = some o
theorem KeepP.of {p : Addr} {H H' : Hp} (s : Same H H') : KeepP p H H' := fun a o _ h => s a o h
theorem KeepP.upd {p : Addr} {H : Hp} {o : HO} : KeepP p H (L2.upd H p o) := fun a x n h => by rw [upd_ne n]; exact h
theorem KeepP.trans {p : Addr} {H H1 H2 : Hp} (a : KeepP p H H1) (b : KeepP p H1 H2) : KeepP p H H2 := fun x o n h => b x o n (a x o n h)
theorem KeepP.sqt {K : PySem.W.Frag} {p a C dx : Addr} {fs : List (Str × V)} {H H' : Hp} {xs : List V} (k : KeepP p H H') (hp : H p = some (.ins C dx fs)) (h : SqT K H a xs) : SqT K H' a xs := by
  rcases h with (h | ⟨o, h⟩) | h
  · exact .inl (.inl (k _ _ (ne_of h hp (by intro z; cases z)) h))
  · exact .inl (.inr ⟨o, k _ _ (ne_of h hp (by intro z; cases z)) h⟩)
  · exact .inr h
theorem KeepP.rows {K : PySem.W.Frag} {p C dx : Addr} {fs : List (Str × V)} {H H' : Hp} (k : KeepP p H H') (hp : H p = some (.ins C dx fs)) : ∀ {xs : List V} {rs : List (List V)}, Rows K H xs rs → Rows K H' xs rs
  | [], [], _ => True.intro
  | _ :: _, _ :: _, ⟨⟨t, e, h⟩, r⟩ => ⟨⟨t, e, k.sqt hp h⟩, k.rows hp r⟩
/-- rows that may be lists -/
def RowsA (K : PySem.W.Frag) (H : Hp) : List V → List (List V) → Prop
  | [], [] => True
  | v :: xs, r :: rs => (∃ t, v = .ref t ∧ Sq K H t r) ∧ RowsA K H xs rs
  | _, _ => False
theorem RowsA.of {K : PySem.W.Frag} {H : Hp} : ∀ {xs : List V} {rs : List (List V)}, Rows K H xs rs → RowsA K H xs rs
  | [], [], _ => True.intro
  | _ :: _, _ :: _, ⟨⟨t, e, h⟩, r⟩ => ⟨⟨t, e, .inr h⟩, RowsA.of r⟩
theorem RowsA.len {K : PySem.W.Frag} {H : Hp} : ∀ {xs : List V} {rs : List (List V)}, RowsA K H xs rs → xs.length = rs.length
  | [], [], _ => rfl
  | _ :: _, _ :: _, ⟨_, r⟩ => congrArg (· + 1) r.len
theorem RowsA.at {K : PySem.W.Frag} {H : Hp} : ∀ {xs : List V} {rs : List (List V)} {i : Nat} {v : V}, RowsA K H xs rs → xs[i]? = some v → ∃ t r, v = .ref t ∧ Sq K H t r ∧ rs[i]? = some r
  | [], [], _, _, _, h => by simp at h
  | _ :: _, r :: _, 0, _, ⟨⟨t, e, h⟩, _⟩, hi => ⟨t, r, by rw [← Option.some.inj hi]; exact e, h, rfl⟩
  | _ :: _, _ :: _, i + 1, _, ⟨_, r⟩, hi => RowsA.at (i := i) r hi
@[irreducible] def rTup (K : PySem.W.Frag) : List V → Hp → VK → Prop := fun xs H Q => ∃ p ys, xs = [.ref p] ∧ ((SqL K H p ys ∧ ∀ l, H l = none → Q (.ref l) (upd H l (.tup ys))) ∨ (SqT K H p ys ∧ Q (.ref p) H))
theorem call_tupA {X : Cx} : CallR X (.type "tuple") (rTup X.K) := by
  unfold rTup
  exact call_tuple_of
theorem tup_any {K : PySem.W.Frag} {a : Addr} {xs : List V} {H : Hp} {Q : VK} (h : Sq K H a xs) (q : ∀ p H', Same H H' → SqT K H' p xs → Q (.ref p) H') :
    rTup K [.ref a] H Q := by
  unfold rTup
  rcases h with h | h
  · exact ⟨a, xs, rfl, .inl ⟨h, fun l nl => q l _ (same_upd nl) (st upd_same)⟩⟩
  · exact ⟨a, xs, rfl, .inr ⟨h, q a H (Same.refl H) h⟩⟩
def fl1 (tn : Addr) : List (Str × V) := putF "nodes" (.ref tn) []
def fl2 (tn ts : Addr) : List (Str × V) := putF "switches" (.ref ts) (fl1 tn)
def fl3 (tn ts tr : Addr) : List (Str × V) := putF "relays" (.ref tr) (fl2 tn ts)
def fl4 (tn ts tr tl : Addr) : List (Str × V) := putF "lamps" (.ref tl) (fl3 tn ts tr)
def fl5 (tn ts tr tl tc : Addr) : List (Str × V) := putF "contacts" (.ref tc) (fl4 tn ts tr tl)
def fl6 (tn ts tr tl tc tm : Addr) : List (Str × V) := putF "_movers" (.ref tm) (fl5 tn ts tr tl tc)
theorem fl5_at (tn ts tr tl tc : Addr) (m : Str) : (fl5 tn ts tr tl tc).lookup m = if m = "contacts" then some (.ref tc) else if m = "lamps" then some (.ref tl) else if m = "relays" then some (.ref tr) else if m = "switches" then some (.ref ts) else if m = "nodes" then some (.ref tn) else none := by
  unfold fl5 fl4 fl3 fl2 fl1
  rw [lookup_putF, lookup_putF, lookup_putF, lookup_putF, lookup_putF]
  rfl
theorem fl6_at (tn ts tr tl tc tm : Addr) (m : Str) : (fl6 tn ts tr tl tc tm).lookup m = if m = "_movers" then some (.ref tm) else (fl5 tn ts tr tl tc).lookup m := by
  unfold fl6
  rw [lookup_putF]
theorem fl_len5 (tn ts tr tl tc : Addr) : (fl5 tn ts tr tl tc).length ≤ 5 ∧ (fl4 tn ts tr tl).length ≤ 4 ∧ (fl3 tn ts tr).length ≤ 3 ∧ (fl2 tn ts).length ≤ 2 ∧ (fl1 tn).length ≤ 1 := by
  have h1 : (fl1 tn).length ≤ 0 + 1 := putF_len _ _ []
  have h2 : (fl2 tn ts).length ≤ (fl1 tn).length + 1 := putF_len _ _ _
  have h3 : (fl3 tn ts tr).length ≤ (fl2 tn ts).length + 1 := putF_len _ _ _
  have h4 : (fl4 tn ts tr tl).length ≤ (fl3 tn ts tr).length + 1 := putF_len _ _ _
  have h5 : (fl5 tn ts tr tl tc).length ≤ (fl4 tn ts tr tl).length + 1 := putF_len _ _ _
  omega
theorem fl5_nodes (tn ts tr tl tc : Addr) : (fl5 tn ts tr tl tc).lookup ("nodes" : Str) = some (.ref tn) := by
  rw [fl5_at, if_neg (by decide +kernel), if_neg (by decide +kernel), if_neg (by decide +kernel), if_neg (by decide +kernel), if_pos rfl]
theorem fl5_switches (tn ts tr tl tc : Addr) : (fl5 tn ts tr tl tc).lookup ("switches" : Str) = some (.ref ts) := by
  rw [fl5_at, if_neg (by decide +kernel), if_neg (by decide +kernel), if_neg (by decide +kernel), if_pos rfl]
theorem fl5_relays (tn ts tr tl tc : Addr) : (fl5 tn ts tr tl tc).lookup ("relays" : Str) = some (.ref tr) := by
  rw [fl5_at, if_neg (by decide +kernel), if_neg (by decide +kernel), if_pos rfl]
theorem fl5_lamps (tn ts tr tl tc : Addr) : (fl5 tn ts tr tl tc).lookup ("lamps" : Str) = some (.ref tl) := by
  rw [fl5_at, if_neg (by decide +kernel), if_pos rfl]
theorem fl5_contacts (tn ts tr tl tc : Addr) : (fl5 tn ts tr tl tc).lookup ("contacts" : Str) = some (.ref tc) := by
  rw [fl5_at, if_pos rfl]
theorem fl6_old (tn ts tr tl tc tm : Addr) {m : Str} (h : ¬ m = "_movers") : (fl6 tn ts tr tl tc tm).lookup m = (fl5 tn ts tr tl tc).lookup m := by rw [fl6_at, if_neg h]
theorem fl6_only (tn ts tr tl tc tm : Addr) (m : Str) (h : m ∉ onlyNames) : (fl6 tn ts tr tl tc tm).lookup m = none := by
  unfold onlyNames at h
  simp only [List.mem_cons, List.not_mem_nil, or_false, not_or] at h
  rw [fl6_at, if_neg h.2.2.2.2.2, fl5_at, if_neg h.2.2.2.2.1, if_neg h.2.2.2.1, if_neg h.2.2.1, if_neg h.2.1, if_neg h.1]
theorem fl5_only (tn ts tr tl tc : Addr) (m : Str) (h : m ∉ onlyNames) : (fl5 tn ts tr tl tc).lookup m = none := by
  unfold onlyNames at h
  simp only [List.mem_cons, List.not_mem_nil, or_false, not_or] at h
  rw [fl5_at, if_neg h.2.2.2.2.1, if_neg h.2.2.2.1, if_neg h.2.2.1, if_neg h.2.1, if_neg h.1]
/-- what is handed to Board(..): lists or tuples of the parts -/
structure Given (K : PySem.W.Frag) (H : Hp) (b : Bd) (an al as ar ac : Addr) : Prop where
  n : Sq K H an (b.nodes.map V.str)
  s : Sq K H as (b.switches.map V.str)
  l : ∃ xs, Sq K H al xs ∧ RowsA K H xs (b.lamps.map Sp3.row)
  r : ∃ xs, Sq K H ar xs ∧ RowsA K H xs (b.relays.map Sp3.row)
  c : ∃ xs, Sq K H ac xs ∧ RowsA K H xs (b.contacts.map Ct.row)
theorem RowsA.mono {K : PySem.W.Frag} {H H' : Hp} (s : Same H H') : ∀ {xs : List V} {rs : List (List V)}, RowsA K H xs rs → RowsA K H' xs rs
  | [], [], _ => True.intro
  | _ :: _, _ :: _, ⟨⟨t, e, h⟩, r⟩ => ⟨⟨t, e, Same.sq s h⟩, r.mono s⟩
theorem Given.mono {K : PySem.W.Frag} {H H' : Hp} {b : Bd} {an al as ar ac : Addr} (s : Same H H') (g : Given K H b an al as ar ac) : Given K H' b an al as ar ac :=
  ⟨Same.sq s g.n, Same.sq s g.s, g.l.imp fun _ h => ⟨Same.sq s h.1, h.2.mono s⟩, g.r.imp fun _ h => ⟨Same.sq s h.1, h.2.mono s⟩, g.c.imp fun _ h => ⟨Same.sq s h.1, h.2.mono s⟩⟩
def spInit (K : PySem.W.Frag) (C : Addr) : Sp := fun vs H Q _ => ∃ (p dx : Addr) (H0 : Hp) (an al as ar ac : Addr) (b : Bd), vs = [.ref p, .ref an, .ref al, .ref as, .ref ar, .ref ac] ∧ H p = some (.ins C dx []) ∧ H0 p = none ∧ Same H0 H ∧ Given K H0 b an al as ar ac ∧ Few b ∧ b.Ok ∧
  ∀ H', Same H0 H' → BoardAt K C H' p b → Q .non H'
theorem scInit : FnScope ["self", "nodes", "lamps", "switches", "relays", "contacts", "relay", "lamp", "contact", "name", "_"] ["self", "nodes", "lamps", "switches", "relays", "contacts"] (defScope sBoardInit) := ⟨rfl, rfl, rfl, by decide +kernel, rfl, by decide +kernel, by decide +kernel⟩
structure BMeths (K : PySem.W.Frag) (C fS fN fC : Addr) : Prop where
  ms : Meth K C "_check_spans" fS
  mn : Meth K C "_check_names" fN
  mc : Meth K C "_check_contacts" fC
theorem rows_loop {K : PySem.W.Frag} {H1 : Hp} {D : Addr} {xs : List V} {rs : List (List V)} {vs : List Nat} {σ : L2.St} {j : Nat} {Qd : Hp → Prop} {J : It} {te : TE} {G : Hp → Prop} (wj : Walk J xs.length G (YAt xs)) (hS : ∀ H2, Same H1 H2 → G H2) (hR : RowsA K H1 xs rs) (hlen : rs.length ≤ 1000) (hD : H1 D = none)
    (hw : ∀ t, wipe ((wipe σ vs).set j (some (.ref t))) vs = wipe σ vs)
    (ht : ∀ t H2 r (Q : VK), Same H1 H2 → Sq K H2 t r → (∀ p H3, Same H2 H3 → SqT K H3 p r → Q (.ref p) H3) → te ((wipe σ vs).set j (some (.ref t))) H2 Q)
    (hd : ∀ H2 ys, Same H1 H2 → H2 D = some (.lst ys) → Rows K H2 ys rs → Qd H2) :
    ∃ W : Nat → Nat → Hp → Prop, (∃ m, W 0 m (upd H1 D (.lst []))) ∧ ∀ i m H, W i m H →
      (J.stop i H ∧ Qd H) ∨ (J.go i H ∧ ∃ Nx : Hp → Prop, (∀ H', Nx H' → ∃ m', m' < m ∧ W (i + 1) m' H') ∧ ∀ x H', J.yld i H x H' → gName j x (wipe σ vs) H' fun σ2 H2 => wipe σ2 vs = wipe σ vs ∧ tYes σ2 H2 fun b H3 =>
        if b = true then te σ2 H3 fun y H4 => ∃ acc, H4 D = some (.lst acc) ∧ acc.length < sizeLine ∧ Nx (upd H4 D (.lst (acc ++ [y]))) else Nx H3) := by
  refine lc_it wj (fun i H2 => ∃ ys, Same H1 H2 ∧ H2 D = some (.lst ys) ∧ Rows K H2 ys (rs.take i)) ⟨[], same_upd hD, upd_same, True.intro⟩ (fun i H2 _ ⟨_, sm, _⟩ => hS H2 sm) ?_ ?_
  · rintro i v H2 H3 hi ⟨ys, sm, hd2, hr2⟩ ⟨rfl, hv⟩
    obtain ⟨t, r, rfl, hrow, hri⟩ := hR.at hv
    refine ⟨hw t, ?_⟩
    refine yesT ?_
    refine ht t H3 r _ sm (Same.sq sm hrow) fun p H4 s4 hp => ?_
    have nD : ∀ q w, SqT K H4 q w → SqT K (upd H4 D (.lst (ys ++ [.ref p]))) q w := fun q w hq => by
      have hd4 := s4 _ _ hd2
      rcases hq with (hq | ⟨o, hq⟩) | hq
      · exact .inl (.inl (by rw [upd_ne (ne_of hq hd4 (by intro z; cases z))]; exact hq))
      · exact .inl (.inr ⟨o, by rw [upd_ne (ne_of hq hd4 (by intro z; cases z))]; exact hq⟩)
      · exact .inr hq
    refine ⟨ys, s4 _ _ hd2, ?_, ys ++ [.ref p], same_mut (sm.trans s4) hD, upd_same, ?_⟩
    · have := hr2.len
      rw [List.length_take] at this
      exact szlt (by omega)
    · rw [List.take_add_one, hri]
      have up : ∀ {xs : List V} {ws : List (List V)}, Rows K H4 xs ws → Rows K (upd H4 D (.lst (ys ++ [.ref p]))) xs ws := by
        intro xs
        induction xs with
        | nil => intro ws h; cases ws with | nil => exact True.intro | cons _ _ => exact h
        | cons x xs ih => intro ws h; cases ws with | nil => exact h | cons w ws => exact ⟨h.1.imp fun q y => ⟨y.1, nD _ _ y.2⟩, ih h.2⟩
      exact (up (hr2.mono s4)).snoc (nD _ _ hp)
  · rintro H2 ⟨ys, sm, hd2, hr2⟩
    rw [hR.len, List.take_length] at hr2
    exact hd H2 ys sm hd2 hr2
theorem seq_rows {K : PySem.W.Frag} {H1 : Hp} {a : Addr} {xs : List V} {rs : List (List V)} {vs : List Nat} {σ : L2.St} {j : Nat} {Qd : Addr → Hp → Prop} {te : TE} (hq : Sq K H1 a xs) (hR : RowsA K H1 xs rs) (hlen : rs.length ≤ 1000)
    (hw : ∀ t, wipe ((wipe σ vs).set j (some (.ref t))) vs = wipe σ vs)
    (ht : ∀ t H2 r (Q : VK), Same H1 H2 → Sq K H2 t r → (∀ p H3, Same H2 H3 → SqT K H3 p r → Q (.ref p) H3) → te ((wipe σ vs).set j (some (.ref t))) H2 Q)
    (hd : ∀ D H2 ys, Same H1 H2 → H2 D = some (.lst ys) → Rows K H2 ys rs → Qd D H2) :
    (SqL K H1 a xs ∧ ∀ D, H1 D = none → ∃ W : Nat → Nat → Hp → Prop, (∃ m, W 0 m (upd H1 D (.lst []))) ∧ ∀ i m H, W i m H →
      ((Itl K a).stop i H ∧ Qd D H) ∨ ((Itl K a).go i H ∧ ∃ Nx : Hp → Prop, (∀ H', Nx H' → ∃ m', m' < m ∧ W (i + 1) m' H') ∧ ∀ x H', (Itl K a).yld i H x H' → gName j x (wipe σ vs) H' fun σ2 H2 => wipe σ2 vs = wipe σ vs ∧ tYes σ2 H2 fun b H3 =>
        if b = true then te σ2 H3 fun y H4 => ∃ acc, H4 D = some (.lst acc) ∧ acc.length < sizeLine ∧ Nx (upd H4 D (.lst (acc ++ [y]))) else Nx H3)) ∨
    (SqT K H1 a xs ∧ ∀ D, H1 D = none → ∃ W : Nat → Nat → Hp → Prop, (∃ m, W 0 m (upd H1 D (.lst []))) ∧ ∀ i m H, W i m H →
      ((Itt K a).stop i H ∧ Qd D H) ∨ ((Itt K a).go i H ∧ ∃ Nx : Hp → Prop, (∀ H', Nx H' → ∃ m', m' < m ∧ W (i + 1) m' H') ∧ ∀ x H', (Itt K a).yld i H x H' → gName j x (wipe σ vs) H' fun σ2 H2 => wipe σ2 vs = wipe σ vs ∧ tYes σ2 H2 fun b H3 =>
        if b = true then te σ2 H3 fun y H4 => ∃ acc, H4 D = some (.lst acc) ∧ acc.length < sizeLine ∧ Nx (upd H4 D (.lst (acc ++ [y]))) else Nx H3)) := by
  rcases hq with h | h
  · exact .inl ⟨h, fun D hD => rows_loop walk_list (fun G y => y.seq h) hR hlen hD hw ht (hd D)⟩
  · exact .inr ⟨h, fun D hD => rows_loop walk_tup (fun G y => Same.sqt y h) hR hlen hD hw ht (hd D)⟩
theorem bt_tuple : bootBuiltins "tuple" = some (.type "tuple") := by decide +kernel
theorem ok_init {f fS fN fC fI1 fI2 fI3 C sp sg : Addr} {mc : Value} {fd fdS fdN fdC fdI1 fdI2 fdI3 fdI : FuncData} {k : Nat} (F : Fun K "__init__" "Board.__init__" sBoardInit f fd) (T : BTxt K mg C mc sp sg) (M : BMeths K C fS fN fC)
    (FS : Fun K "_check_spans" "Board._check_spans" sBoardCheckSpans fS fdS) (bS : Binds K fdS ["self"] []) (FN : Fun K "_check_names" "Board._check_names" sBoardCheckNames fN fdN) (bN : Binds K fdN ["self"] [])
    (FC : Fun K "_check_contacts" "Board._check_contacts" sBoardCheckContacts fC fdC) (bC : Binds K fdC ["self"] [])
    (F1 : Fun K "is_span" "is_span" sIsSpan fI1 fdI1) (b1 : Binds K fdI1 ["part", "nodes"] []) (g1 : mg "is_span" = some (.ref fI1))
    (F2 : Fun K "are_names" "are_names" sAreNames fI2 fdI2) (b2 : Binds K fdI2 ["names", "least", "most"] []) (g2 : mg "are_names" = some (.ref fI2))
    (F3 : Fun K "is_contact" "is_contact" sIsContact fI3 fdI3) (b3 : Binds K fdI3 ["part", "nodes", "movers"] []) (g3 : mg "is_contact" = some (.ref fI3))
    (FI : Fun K "is_good_name" "is_good_name" sIsGoodName sg fdI) (bI : Binds K fdI ["text"] []) :
    FnOk P w K mg base CX0 (k + 4) f fd ["self", "nodes", "lamps", "switches", "relays", "contacts"] (spInit K C) := by
  have GS : FnOk P w K mg base CX0 (k + 3) fS fdS ["self"] (spSpans K C) := ok_spans FS T F1 b1 g1 FI bI
  have GN : FnOk P w K mg base CX0 (k + 3) fN fdN ["self"] (spChk K C) := ok_chk FN T F2 b2 g2 FI bI
  have GC : FnOk P w K mg base CX0 (k + 2) fC fdC ["self"] (spCtc K C) := ok_ctc FC T F3 b3 g3
  refine F.ok scInit (fun vs H Q E h => ?_) (fun cdv A outer s H vs Q E hr h => ?_)
  · obtain ⟨p, dx, H0, an, al, as, ar, ac, b, rfl, _⟩ := h
    rfl
  · obtain ⟨p, dx, H0, an, al, as, ar, ac, b, rfl, hp, np, s0, gv, few, ok, q⟩ := h
    have hr2 : Room (k + 2) _ := hr.mono (Nat.le_succ _)
    refine ⟨_, pss_cons (ps_fld (pv 0) (pe_callTy call_tupA (by rfl) T.tup (by decide +kernel) (pa_cons (pv 1) pa_nil)) rfl)
      (pss_cons (ps_fld (pv 0) (pe_callTy call_tupA (by rfl) T.tup (by decide +kernel) (pa_cons (pv 3) pa_nil)) rfl)
      (pss_cons (ps_fld (pv 0) (pe_callTy call_tupA (by rfl) T.tup (by decide +kernel) (pa_cons (pe_lc (own := [("relay", 6)]) (g := gName 6) (tt := tYes) (te := tCB (rTup K) (tCons (tVar 6) tNil)) rfl scInit.nd (pi_seqA (pv 4)) (blkOk_by (N := ["self", "nodes", "lamps", "switches", "relays", "contacts", "relay", "lamp", "contact", "name", "_"]) (sc := defScope sBoardInit) (by decide +kernel)) (fun _ _ _ _ _ => pg_name (i := 6) scInit.nd rfl (Or.inl rfl)) (fun _ _ _ _ _ => pts_nil)
          (fun _ _ _ _ _ => pe_callTy call_tupA (by rfl) T.tup bt_tuple (pa_cons (pv 6) pa_nil))) pa_nil)) rfl)
      (pss_cons (ps_fld (pv 0) (pe_callTy call_tupA (by rfl) T.tup (by decide +kernel) (pa_cons (pe_lc (own := [("lamp", 7)]) (g := gName 7) (tt := tYes) (te := tCB (rTup K) (tCons (tVar 7) tNil)) rfl scInit.nd (pi_seqA (pv 2)) (blkOk_by (N := ["self", "nodes", "lamps", "switches", "relays", "contacts", "relay", "lamp", "contact", "name", "_"]) (sc := defScope sBoardInit) (by decide +kernel)) (fun _ _ _ _ _ => pg_name (i := 7) scInit.nd rfl (Or.inl rfl)) (fun _ _ _ _ _ => pts_nil)
          (fun _ _ _ _ _ => pe_callTy call_tupA (by rfl) T.tup bt_tuple (pa_cons (pv 7) pa_nil))) pa_nil)) rfl)
      (pss_cons (ps_fld (pv 0) (pe_callTy call_tupA (by rfl) T.tup (by decide +kernel) (pa_cons (pe_lc (own := [("contact", 8)]) (g := gName 8) (tt := tYes) (te := tCB (rTup K) (tCons (tVar 8) tNil)) rfl scInit.nd (pi_seqA (pv 5)) (blkOk_by (N := ["self", "nodes", "lamps", "switches", "relays", "contacts", "relay", "lamp", "contact", "name", "_"]) (sc := defScope sBoardInit) (by decide +kernel)) (fun _ _ _ _ _ => pg_name (i := 8) scInit.nd rfl (Or.inl rfl)) (fun _ _ _ _ _ => pts_nil)
          (fun _ _ _ _ _ => pe_callTy call_tupA (by rfl) T.tup bt_tuple (pa_cons (pv 8) pa_nil))) pa_nil)) rfl)
      (pss_cons (ps_expr (pe_meth0 (pv 0) T.cl M.ms GS hr bS .nil pass0))
      (pss_cons (ps_fld (pv 0) (pe_op op_catA (pe_fld (pv 0) rfl) (pe_callTy call_tupA (by rfl) T.tup (by decide +kernel) (pa_cons (pe_lc (own := [("name", 9), ("_", 10)]) (g := gTup K 3 (gCons (gName 9) (gCons (gName 10) (gCons (gName 10) gNil)))) (tt := tYes) rfl scInit.nd (pi_tup (pe_fld (pv 0) rfl)) (blkOk_by (N := ["self", "nodes", "lamps", "switches", "relays", "contacts", "relay", "lamp", "contact", "name", "_"]) (sc := defScope sBoardInit) (by decide +kernel))
          (fun _ _ _ _ _ => pg_tup rfl (pgs_cons (pg_name (i := 9) scInit.nd rfl (Or.inl rfl)) (pgs_cons (pg_name (i := 10) scInit.nd rfl (Or.inl rfl)) (pgs_cons (pg_name (i := 10) scInit.nd rfl (Or.inl rfl)) pgs_nil)))) (fun _ _ _ _ _ => pts_nil) (fun _ _ _ _ _ => pv 9)) pa_nil))) rfl)
      (pss_cons (ps_expr (pe_meth0 (pv 0) T.cl M.mn GN hr bN .nil pass0))
      (pss_one (ps_expr (pe_meth0 (pv 0) T.cl M.mc GC hr2 bC .nil pass0)))))))))), ?_⟩
    -- nodes
    refine ⟨_, rfl, ?_⟩
    refine tup_any (Same.sq s0 gv.n) fun tn H1 s1 hn => ?_
    refine ⟨_, rfl, p, C, dx, _, rfl, s1 _ _ hp, T.cl, T.nN, by decide, ?_⟩
    have e1 : Same H0 (upd H1 p (.ins C dx (fl1 tn))) := same_mut (s0.trans s1) np
    -- switches
    refine ⟨_, rfl, ?_⟩
    refine tup_any (Same.sq e1 gv.s) fun ts H2 s2 hs => ?_
    refine ⟨_, rfl, p, C, dx, _, rfl, s2 _ _ upd_same, T.cl, T.nS, by have := fl_len5 tn ts p p p; exact Nat.lt_of_le_of_lt this.2.2.2.2 (by decide), ?_⟩
    have e2 : Same H0 (upd H2 p (.ins C dx (fl2 tn ts))) := same_mut (e1.trans s2) np
    -- relays
    obtain ⟨xr0, gr, rr0⟩ := gv.r
    obtain ⟨xl0, gl, rl0⟩ := gv.l
    obtain ⟨xc0, gc, rc0⟩ := gv.c
    have gr2 := Same.sq e2 gr
    have hr3 := Same.sq e2 gr
    refine ⟨_, rfl, ar, xr0, rfl, seq_rows hr3 (rr0.mono e2) (by rw [List.length_map]; exact few.r) (fun _ => rfl) (fun t G r Q' _ h q' => ⟨_, rfl, tup_any h q'⟩) fun D1 H3 yr s3 hD1 rr => ?_⟩
    refine tup_any (.inl (sq hD1)) fun tr H4 s4 htr => ?_
    refine ⟨_, rfl, p, C, dx, _, rfl, s4 _ _ (s3 _ _ upd_same), T.cl, T.nR, by have := fl_len5 tn ts p p p; exact Nat.lt_of_le_of_lt this.2.2.2.1 (by decide), ?_⟩
    have e4 : Same H0 (upd H4 p (.ins C dx (fl3 tn ts tr))) := same_mut ((e2.trans s3).trans s4) np
    -- lamps
    refine ⟨_, rfl, al, xl0, rfl, seq_rows (Same.sq e4 gl) (rl0.mono e4) (by rw [List.length_map]; exact few.l) (fun _ => rfl) (fun t G r Q' _ h q' => ⟨_, rfl, tup_any h q'⟩) fun D2 H5 yl s5 hD2 rl => ?_⟩
    refine tup_any (.inl (sq hD2)) fun tl H6 s6 htl => ?_
    refine ⟨_, rfl, p, C, dx, _, rfl, s6 _ _ (s5 _ _ upd_same), T.cl, T.nL, by have := fl_len5 tn ts tr p p; exact Nat.lt_of_le_of_lt this.2.2.1 (by decide), ?_⟩
    have e6 : Same H0 (upd H6 p (.ins C dx (fl4 tn ts tr tl))) := same_mut ((e4.trans s5).trans s6) np
    -- contacts
    refine ⟨_, rfl, ac, xc0, rfl, seq_rows (Same.sq e6 gc) (rc0.mono e6) (by rw [List.length_map]; exact few.c) (fun _ => rfl) (fun t G r Q' _ h q' => ⟨_, rfl, tup_any h q'⟩) fun D3 H7 yc s7 hD3 rc => ?_⟩
    refine tup_any (.inl (sq hD3)) fun tc H8 s8 htc => ?_
    refine ⟨_, rfl, p, C, dx, _, rfl, s8 _ _ (s7 _ _ upd_same), T.cl, T.nC, by have := fl_len5 tn ts tr tl p; exact Nat.lt_of_le_of_lt this.2.1 (by decide), ?_⟩
    have e8 : Same H0 (upd H8 p (.ins C dx (fl5 tn ts tr tl tc))) := same_mut ((e6.trans s7).trans s8) np
    -- what stands
    have k8 : KeepP p H8 (upd H8 p (.ins C dx (fl5 tn ts tr tl tc))) := KeepP.upd
    have k6 : KeepP p H6 (upd H8 p (.ins C dx (fl5 tn ts tr tl tc))) := ((KeepP.upd.trans (.of s7)).trans (.of s8)).trans k8
    have k4 : KeepP p H4 (upd H8 p (.ins C dx (fl5 tn ts tr tl tc))) := ((KeepP.upd.trans (.of s5)).trans (.of s6)).trans k6
    have k2 : KeepP p H2 (upd H8 p (.ins C dx (fl5 tn ts tr tl tc))) := ((KeepP.upd.trans (.of s3)).trans (.of s4)).trans k4
    have k1 : KeepP p H1 (upd H8 p (.ins C dx (fl5 tn ts tr tl tc))) := (KeepP.upd.trans (.of s2)).trans k2
    have p4 : H4 p = some (.ins C dx (fl2 tn ts)) := s4 _ _ (s3 _ _ upd_same)
    have p6 : H6 p = some (.ins C dx (fl3 tn ts tr)) := s6 _ _ (s5 _ _ upd_same)
    have p8 : H8 p = some (.ins C dx (fl4 tn ts tr tl)) := s8 _ _ (s7 _ _ upd_same)
    have f5 : Fl K (upd H8 p (.ins C dx (fl5 tn ts tr tl tc))) (fl5 tn ts tr tl tc) b tn ts tr tl tc yr yl yc :=
      ⟨fl5_nodes .., fl5_switches .., fl5_relays .., fl5_lamps .., fl5_contacts .., k1.sqt (s1 _ _ hp) hn, k2.sqt (s2 _ _ upd_same) hs, k4.sqt p4 htr, k6.sqt p6 htl, k8.sqt p8 htc, k4.rows p4 (rr.mono s4), k6.rows p6 (rl.mono s6), k8.rows p8 (rc.mono s8)⟩
    -- _check_spans
    refine ⟨_, rfl, p, dx, _, rfl, upd_same, fl5_only _ _ _ _ _ _ (by decide +kernel), p, dx, _, b, tn, ts, tr, tl, tc, yr, yl, yc, rfl, upd_same, f5, few, ok.spR, ok.spL, fun H9 s9 => ?_⟩
    have f9 := f5.mono s9
    have hp9 := s9 _ _ (upd_same (H := H8) (a := p) (o := .ins C dx (fl5 tn ts tr tl tc)))
    -- _movers
    refine ⟨_, rfl, p, C, dx, _, _, rfl, hp9, T.cl, T.nS, f9.ls, _, rfl, p, C, dx, _, _, rfl, hp9, T.cl, T.nR, f9.lr, tr, rfl, ⟨_, f9.hr⟩, fun D4 hD4 => ?_⟩
    have lr := f9.rr.len
    rw [List.length_map] at lr
    refine lc_tup (K := K) (a := tr) (xs := yr) (fun i G => Same H9 G ∧ G D4 = some (.lst (((b.relays.map (·.nm)).take i).map V.str)))
      ⟨same_upd hD4, upd_same⟩ (fun i G _ h => Same.sqt h.1 f9.hr) ?_ ?_
    · rintro i v G hi ⟨sm, hd⟩
      obtain ⟨tt, rw_, rfl, hrow, hri⟩ := f9.rr.at hi
      rw [List.getElem?_map] at hri
      obtain ⟨r, hr1, rfl⟩ := Option.map_eq_some_iff.mp hri
      refine ⟨tt, _, rfl, Same.sqt sm hrow, rfl, _, _, rfl, _, _, rfl, _, _, rfl, rfl, rfl, ?_⟩
      refine yesT ?_
      refine ⟨_, rfl, _, hd, ?_, same_mut sm hD4, ?_⟩
      · rw [List.length_map, List.length_take]
        have := few.r
        exact szlt (by rw [List.length_map]; omega)
      · rw [upd_same, ← map_snoc, List.take_add_one, List.getElem?_map, hr1]
        rfl
    · rintro H10 ⟨sm, hd⟩
      rw [lr, ← List.length_map (f := fun r : Sp3 => r.nm), List.take_length] at hd
      refine tup_any (.inl (sq hd)) fun t2 H11 s11 ht2 => ?_
      have s9b := sm.trans s11
      refine cat_any (Same.sqt s9b f9.hs) ht2 (by rw [List.length_map, List.length_map, List.length_map]; have := few.s; have := few.r; omega) fun tm H12 s12 htm => ?_
      have s9c := s9b.trans s12
      rw [← List.map_append] at htm
      refine ⟨_, rfl, p, C, dx, _, rfl, s9c _ _ hp9, T.cl, T.nM, by have := fl_len5 tn ts tr tl tc; exact Nat.lt_of_le_of_lt this.1 (by decide), ?_⟩
      have kf : KeepP p H12 (upd H12 p (.ins C dx (fl6 tn ts tr tl tc tm))) := KeepP.upd
      have p12 := s9c _ _ hp9
      have f12 := f9.mono s9c
      have e12 : Same H0 (upd H12 p (.ins C dx (fl6 tn ts tr tl tc tm))) := same_mut ((e8.trans s9).trans s9c) np
      have f13 : Fl K (upd H12 p (.ins C dx (fl6 tn ts tr tl tc tm))) (fl6 tn ts tr tl tc tm) b tn ts tr tl tc yr yl yc :=
        ⟨by rw [fl6_old _ _ _ _ _ _ (by decide +kernel)]; exact fl5_nodes .., by rw [fl6_old _ _ _ _ _ _ (by decide +kernel)]; exact fl5_switches .., by rw [fl6_old _ _ _ _ _ _ (by decide +kernel)]; exact fl5_relays .., by rw [fl6_old _ _ _ _ _ _ (by decide +kernel)]; exact fl5_lamps ..,
          by rw [fl6_old _ _ _ _ _ _ (by decide +kernel)]; exact fl5_contacts .., kf.sqt p12 f12.hn, kf.sqt p12 f12.hs, kf.sqt p12 f12.hr, kf.sqt p12 f12.hl, kf.sqt p12 f12.hc, kf.rows p12 f12.rr, kf.rows p12 f12.rl, kf.rows p12 f12.rc⟩
      have lm : (fl6 tn ts tr tl tc tm).lookup ("_movers" : Str) = some (.ref tm) := by rw [fl6_at, if_pos rfl]
      have hm : SqT K (upd H12 p (.ins C dx (fl6 tn ts tr tl tc tm))) tm (b.movers.map V.str) := kf.sqt p12 htm
      -- _check_names, _check_contacts
      refine ⟨_, rfl, p, dx, _, rfl, upd_same, fl6_only _ _ _ _ _ _ _ (by decide +kernel), p, dx, _, b, tn, ts, tr, tl, tc, tm, yr, yl, yc, rfl, upd_same, f13, lm, hm, few, ok, fun H14 s14 => ?_⟩
      have hp14 := s14 _ _ (upd_same (H := H12) (a := p) (o := .ins C dx (fl6 tn ts tr tl tc tm)))
      have f14 := f13.mono s14
      refine ⟨_, rfl, p, dx, _, rfl, hp14, fl6_only _ _ _ _ _ _ _ (by decide +kernel), p, dx, _, b, tn, ts, tr, tl, tc, tm, yr, yl, yc, rfl, hp14, f14, lm, Same.sqt s14 hm, ok.ct, ok.cts, fun H15 s15 => ?_⟩
      exact q H15 ((e12.trans s14).trans s15) ⟨dx, _, tn, ts, tr, tl, tc, tm, yr, yl, yc, s15 _ _ hp14, f14.mono s15, lm, Same.sqt (s14.trans s15) hm, fl6_only _ _ _ _ _ _⟩
/-! ### _law_row -/
def spRow : Sp := fun vs H Q _ => ∃ (c : Int) (m : Nat), vs = [.int c, .int m] ∧ m ≤ 100000 ∧ ∀ H' p (ns : List Int), Same H H' → H p = none → H' p = some (.lst (ns.map V.int)) → ns.length = m → Nums ns → Q (.ref p) H'
theorem scRow : FnScope ["cell", "many", "row", "rest", "k", "mixed"] ["cell", "many"] (defScope sLawRow) := ⟨rfl, rfl, rfl, by decide +kernel, rfl, by decide +kernel, by decide +kernel⟩
theorem ok_row {f : Addr} {fd : FuncData} {k : Nat} (F : Fun K "_law_row" "_law_row" sLawRow f fd) (ma : mg "abs" = none) (mi : mg "int" = none) (mr : mg "range" = none) : FnOk P w K mg base CX0 (k + 1) f fd ["cell", "many"] spRow := by
  refine F.ok scRow (fun vs H Q E h => ?_) (fun cdv A outer s H vs Q E hr h => ?_)
  · obtain ⟨c, m, rfl, _⟩ := h
    rfl
  · obtain ⟨c, m, rfl, hm, q⟩ := h
    refine ⟨_, pss_cons (ps_set (i := 2) scRow.nd rfl (.inl rfl) (pe_lst pa_nil))
      (pss_cons (ps_set (i := 3) scRow.nd rfl (.inl rfl) (pe_callB call_abs (by rfl) ma (by decide +kernel) (pa_cons (pe_callTy call_int1 (by rfl) mi (by decide +kernel) (pa_cons (pv 0) pa_nil)) pa_nil)))
      (pss_cons (ps_for PassesOwn.never rfl (pi_range1 rfl mr (pa_cons (pv 1) pa_nil)) (pg_name (i := 4) scRow.nd rfl (.inl rfl))
        (pss_one (ps_if (pt_cmpR op_ge (pe_callB call_abs (by rfl) ma (by decide +kernel) (pa_cons (pe_callTy call_int1 (by rfl) mi (by decide +kernel) (pa_cons (pv 0) pa_nil)) pa_nil)) (pe_op op_pow pe_int pe_int) (nomark _))
          (pss_cons (ps_expr (pe_bm PySem.F.plainAttrs_list PySem.F.slot_list_append PySem.F.type_list_append mt_append (pv 2) (pa_cons (pe_op op_mod (pe_callTy call_int1 (by rfl) mi (by decide +kernel) (pa_cons (pv 3) pa_nil)) pe_int) pa_nil)))
          (pss_one (ps_set (i := 3) scRow.nd rfl (.inl rfl) (pe_op op_fdiv (pv 3) pe_int))))
          (pss_cons (ps_set (i := 5) scRow.nd rfl (.inl rfl) (pe_op op_mod (pe_callTy call_int1 (by rfl) mi (by decide +kernel) (pa_cons (pe_op op_add (pe_op op_mul (pv 3) pe_int) (pe_op op_mul (pe_op op_add (pv 4) pe_int) pe_int)) pa_nil)) pe_int))
          (pss_cons (ps_set (i := 5) scRow.nd rfl (.inl rfl) (pe_op op_mod (pe_callTy call_int1 (by rfl) mi (by decide +kernel) (pa_cons (pe_op op_add (pe_op op_mul (pv 5) pe_int) (pe_op op_mul pe_int (pe_op op_add (pv 4) pe_int))) pa_nil)) pe_int))
          (pss_one (ps_expr (pe_bm PySem.F.plainAttrs_list PySem.F.slot_list_append PySem.F.type_list_append mt_append (pv 2) (pa_cons (pe_op op_mod (pe_callTy call_int1 (by rfl) mi (by decide +kernel) (pa_cons (pv 5) pa_nil)) pe_int) pa_nil)))))))))
      (pss_one (ps_ret (pv 2))))), ?_⟩
    have e18 : (10 : Int) ^ (18 : Int).toNat = 1000000000000000000 := by decide +kernel
    refine ⟨Nat.zero_le _, fun o no => ?_⟩
    have s1 : Same H (upd H o (.lst [])) := same_upd no
    refine ⟨_, rfl, .inl ⟨_, rfl, _, rfl, ?_⟩⟩
    generalize hb : (if c < 0 then -c else c) = ab
    have hb0 : 0 ≤ ab := by
      rw [← hb]
      split <;> omega
    refine ⟨_, rfl, (m : Int), rfl, by omega, by omega, ?_⟩
    refine for_range (lo := 0) (n := (m : Int).toNat) (fun i σ H2 => ∃ (r : Int) (ns : List Int) (z4 z5 : Option V), σ = [some (.int c), some (.int m), some (.ref o), some (.int r), z4, z5] ∧ Same H H2 ∧ H2 o = some (.lst (ns.map V.int)) ∧ ns.length = i ∧ Nums ns ∧ 0 ≤ r ∧ (ab < 1000000000000000000 → r < 1000000000000000000))
      ⟨ab, [], none, none, rfl, s1, upd_same, rfl, (fun n hn => by cases hn), hb0, fun h => h⟩ ?_ ?_
    · rintro i σ H2 hi ⟨r, ns, z4, z5, rfl, sm, ho, hl, hn, hr0, hr1⟩
      refine ⟨_, rfl, .inl ⟨_, rfl, _, rfl, ?_⟩⟩
      rw [hb]
      refine ⟨_, _, rfl, rfl, ⟨by decide, by decide, by decide⟩, _, _, rfl, rfl, _, rfl, ?_⟩
      rw [e18]
      refine ite2 (fun hbig => ?_) (fun hsm => ?_)
      · refine ⟨.ref o, rfl, .inl ⟨rfl, _, sq ho⟩, _, rfl, .inl ⟨_, rfl, _, _, rfl, rfl, (by show (0 : Int) < 1009; decide), o, _, _, rfl, rfl, ho, ?_, ?_⟩⟩
        · rw [List.length_map]
          exact szlt (by omega)
        · have hbig' : (1000000000000000000 : Int) ≤ ab := of_decide_eq_true hbig
          refine ⟨_, rfl, _, _, rfl, rfl, ⟨by decide, by decide⟩, r / 1009, ns ++ [r % 1009], _, _, rfl, same_mut sm no, ?_, ?_, hn.snoc (by omega) (by omega), by omega, fun z => by omega⟩
          · rw [upd_same, map_snoc]
          · rw [List.length_append, hl]
            rfl
      · have hsm' : ab < 1000000000000000000 := by
          have := of_decide_eq_false (Bool.eq_false_iff.mpr hsm)
          omega
        have hr2 := hr1 hsm'
        have b64 : (2 : Int) ^ 64 = 18446744073709551616 := by decide
        refine ⟨_, rfl, _, _, rfl, rfl, .inl ⟨by omega, by omega⟩, _, rfl, _, _, rfl, rfl, _, _, rfl, rfl, .inr ⟨by decide, by decide⟩, _, _, rfl, rfl, .inl ⟨_, rfl, _, _, rfl, rfl, (by show (0 : Int) < 2147483647; decide), ?_⟩⟩
        refine ⟨_, rfl, _, _, rfl, rfl, .inr ⟨by decide, by decide⟩, _, rfl, _, _, rfl, rfl, _, _, rfl, rfl, .inl ⟨by decide, by decide⟩, _, _, rfl, rfl, .inl ⟨_, rfl, _, _, rfl, rfl, (by show (0 : Int) < 2147483629; decide), ?_⟩⟩
        refine ⟨.ref o, rfl, .inl ⟨rfl, _, sq ho⟩, _, rfl, .inl ⟨_, rfl, _, _, rfl, rfl, (by show (0 : Int) < 1009; decide), o, _, _, rfl, rfl, ho, ?_, ?_⟩⟩
        · rw [List.length_map]
          exact szlt (by omega)
        · refine ⟨r, ns ++ [(((r * 48271 + (0 + (i : Int) + 1) * 69621) % 2147483647 * 16807 + 271 * (0 + (i : Int) + 3)) % 2147483629) % 1009], _, _, rfl, same_mut sm no, ?_, ?_, hn.snoc (Int.emod_nonneg _ (by decide)) (Int.emod_lt_of_pos _ (by decide)), hr0, hr1⟩
          · rw [upd_same, map_snoc]
          · rw [List.length_append, hl]
            rfl
    · rintro σ H2 ⟨r, ns, z4, z5, rfl, sm, ho, hl, hn, hr0, hr1⟩
      exact ⟨.ref o, rfl, q H2 o ns sm no ho (by omega) hn⟩
/-! ### _law_numbers -/
def spNumbers (K : PySem.W.Frag) : Sp := fun vs H Q _ => ∃ (a : Addr) (cs : List Int) (m : Nat), vs = [.ref a, .int m] ∧ SqL K H a (cs.map V.int) ∧ cs.length ≤ 63 ∧ m ≤ 5000 ∧
  ∀ H' p (ns : List Int), Same H H' → H p = none → H' p = some (.lst (ns.map V.int)) → ns.length = m → Nums ns → Q (.ref p) H'
theorem scNumbers : FnScope ["script", "many", "cells", "each", "numbers", "cell", "number"] ["script", "many"] (defScope sLawNumbers) := ⟨rfl, rfl, rfl, by decide +kernel, rfl, by decide +kernel, by decide +kernel⟩
theorem ok_numbers {f fR : Addr} {fd fdR : FuncData} {k : Nat} (F : Fun K "_law_numbers" "_law_numbers" sLawNumbers f fd) (kR : PySem.W.keepIn K (.ref fR) = true) (bR : Binds K fdR ["cell", "many"] []) (gR : mg "_law_row" = some (.ref fR))
    (GR : FnOk P w K mg base CX0 (k + 1) fR fdR ["cell", "many"] spRow) (mx : mg "max" = none) (ml : mg "len" = none) : FnOk P w K mg base CX0 (k + 2) f fd ["script", "many"] (spNumbers K) := by
  refine F.ok scNumbers (fun vs H Q E h => ?_) (fun cdv A outer s H vs Q E hr h => ?_)
  · obtain ⟨a, cs, m, rfl, _⟩ := h
    rfl
  · obtain ⟨a, cs, m, rfl, hS, hlen, hm, q⟩ := h
    refine ⟨_, pss_cons (ps_set (i := 2) scNumbers.nd rfl (.inl rfl) (pe_slice sl_list (pv 0) po_none (po_some pe_int)))
      (pss_cons (ps_set (i := 3) scNumbers.nd rfl (.inl rfl) (pe_op op_add pe_int (pe_op op_fdiv (pv 1) (pe_callB (call_max2 rfl) (by rfl) mx (by decide +kernel) (pa_cons pe_int (pa_cons (pe_callB call_len_seq (by rfl) ml PySem.boot_len (pa_cons (pv 2) pa_nil)) pa_nil))))))
      (pss_cons (ps_set (i := 4) scNumbers.nd rfl (.inl rfl) (pe_lst pa_nil))
      (pss_cons (ps_for PassesOwn.never rfl (pi_list (pv 2)) (pg_name (i := 5) scNumbers.nd rfl (.inl rfl))
        (pss_one (ps_for PassesOwn.never rfl (pi_list (pe_call GR hr (by rfl) gR kR bR .nil pass0 (pa_cons (pv 5) (pa_cons (pv 3) pa_nil)))) (pg_name (i := 6) scNumbers.nd rfl (.inl rfl))
          (pss_one (ps_expr (pe_bm PySem.F.plainAttrs_list PySem.F.slot_list_append PySem.F.type_list_append mt_append (pv 4) (pa_cons (pv 6) pa_nil)))))))
      (pss_cons (ps_while PassesOwn.never (pt_cmpR op_lt (pe_callB call_len_seq (by rfl) ml PySem.boot_len (pa_cons (pv 4) pa_nil)) (pv 1) (nomark _))
          (pss_one (ps_expr (pe_bm PySem.F.plainAttrs_list PySem.F.slot_list_append PySem.F.type_list_append mt_append (pv 4) (pa_cons pe_int pa_nil)))))
      (pss_one (ps_ret (pe_slice sl_list (pv 4) po_none (po_some (pv 1))))))))), ?_⟩
    -- cells = script[:63]
    refine ⟨_, rfl, 63, rfl, a, _, rfl, hS, fun c nc => ?_⟩
    rw [show ((63 : Int)) = ((63 : Nat) : Int) from rfl, cut_list, List.take_of_length_le (by rw [List.length_map]; exact hlen)]
    have s1 : Same H (upd H c (.lst (cs.map V.int))) := same_upd nc
    -- each = 1 + many // max(1, len(cells))
    refine ⟨_, rfl, _, rfl, c, _, rfl, .inl (sq upd_same), _, _, rfl, ?_⟩
    generalize hd : (if ((cs.map V.int).length : Int) > 1 then ((cs.map V.int).length : Int) else 1) = dv
    have hd1 : 1 ≤ dv ∧ dv ≤ 63 := by
      rw [List.length_map] at hd
      rw [← hd]
      split <;> omega
    refine ⟨_, _, rfl, rfl, ⟨by omega, by omega⟩, _, _, rfl, rfl, ?_⟩
    have he : ∃ e : Nat, (1 + (m : Int) / dv) = (e : Int) ∧ e ≤ 5001 := by
      have h0 : 0 ≤ (m : Int) / dv := Int.ediv_nonneg (by omega) (by omega)
      have h1 : (m : Int) / dv ≤ m := Int.ediv_le_self _ (by omega)
      exact ⟨(1 + (m : Int) / dv).toNat, by omega, by omega⟩
    obtain ⟨e, ee, he⟩ := he
    -- numbers = []
    refine ⟨Nat.zero_le _, fun o no => ?_⟩
    have nco : c ≠ o := ne_of_none upd_same no
    have no' : H o = none := s1.free no
    refine ⟨.ref c, rfl, c, rfl, ⟨_, sq (by rw [upd_ne nco]; exact upd_same)⟩, for_list (K := K) (a := c) (xs := cs.map V.int) (fun i σ H2 => ∃ (ns : List Int) (z5 z6 : Option V), σ = [some (.ref a), some (.int m), some (.ref c), some (.int (1 + (m : Int) / dv)), some (.ref o), z5, z6] ∧ Same H H2 ∧ H2 c = some (.lst (cs.map V.int)) ∧ H2 o = some (.lst (ns.map V.int)) ∧ ns.length = i * e ∧ Nums ns)
      ⟨[], none, none, rfl, same_mut s1 no', by rw [upd_ne nco]; exact upd_same, upd_same, by rw [Nat.zero_mul]; rfl, fun n hn => by cases hn⟩ (fun i σ H2 _ ⟨_, _, _, _, _, hc, _⟩ => sq hc) ?_ ?_⟩
    · rintro i y σ H2 hi ⟨ns, z5, z6, rfl, sm, hc, ho, hl, hn⟩
      have hil : i < (cs.map V.int).length := (List.getElem?_eq_some_iff.mp hi).1
      rw [List.length_map] at hil
      obtain ⟨z, rfl⟩ : ∃ z, y = V.int z := by
        rw [List.getElem?_map, List.getElem?_eq_getElem hil] at hi
        exact ⟨_, (Option.some.inj hi).symm⟩
      have hie : i * e ≤ 63 * 5001 := Nat.mul_le_mul (by omega) he
      refine ⟨_, rfl, _, rfl, z, e, congrArg (fun t => [V.int z, V.int t]) ee, by omega, fun H3 r rs s3 nr hr3 hrl hrn => ?_⟩
      have hc3 := s3 _ _ hc
      have ho3 := s3 _ _ ho
      have nro : r ≠ o := fun z => by
        rw [z, ho] at nr
        cases nr
      refine ⟨r, rfl, ⟨_, sq hr3⟩, for_list (K := K) (a := r) (xs := rs.map V.int) (fun j σ H4 => ∃ (z6 : Option V), σ = [some (.ref a), some (.int m), some (.ref c), some (.int (1 + (m : Int) / dv)), some (.ref o), some (.int z), z6] ∧ Same H H4 ∧ H4 c = some (.lst (cs.map V.int)) ∧ H4 r = some (.lst (rs.map V.int)) ∧ H4 o = some (.lst ((ns ++ rs.take j).map V.int)))
        ⟨z6, rfl, sm.trans s3, hc3, hr3, by rw [List.take_zero, List.append_nil]; exact ho3⟩ (fun j σ H4 _ ⟨_, _, _, _, h4, _⟩ => sq h4) ?_ ?_⟩
      · rintro j y σ H4 hj ⟨w6, rfl, s4, hc4, hr4, ho4⟩
        have hjl : j < (rs.map V.int).length := (List.getElem?_eq_some_iff.mp hj).1
        rw [List.length_map] at hjl
        obtain ⟨n, hnj, rfl⟩ : ∃ n, rs[j]? = some n ∧ y = V.int n := by
          rw [List.getElem?_map, List.getElem?_eq_getElem hjl] at hj
          exact ⟨_, List.getElem?_eq_getElem hjl, (Option.some.inj hj).symm⟩
        refine ⟨.ref o, rfl, .inl ⟨rfl, _, sq ho4⟩, _, rfl, o, _, _, rfl, rfl, ho4, ?_, ?_⟩
        · rw [List.length_map, List.length_append, List.length_take]
          exact szlt (by omega)
        · refine ⟨_, rfl, same_mut s4 no', by rw [upd_ne nco]; exact hc4, by rw [upd_ne nro]; exact hr4, ?_⟩
          rw [upd_same, ← map_snoc, List.append_assoc, List.take_add_one, hnj]
          rfl
      · rintro σ H4 ⟨w6, rfl, s4, hc4, hr4, ho4⟩
        rw [List.length_map, List.take_length] at ho4
        refine ⟨ns ++ rs, _, _, rfl, s4, hc4, ho4, ?_, fun n hn2 => ?_⟩
        · rw [List.length_append, hl, hrl, Nat.succ_mul]
        · rcases List.mem_append.mp hn2 with h | h
          · exact hn n h
          · exact hrn n h
    · rintro σ H2 ⟨ns, z5, z6, rfl, sm, hc, ho, hl, hn⟩
      rw [List.length_map] at hl
      have hle : ns.length ≤ 63 * 5001 := by
        rw [hl]
        exact Nat.mul_le_mul hlen he
      -- while len(numbers) < many
      refine while_by (fun σ H3 => ∃ ns' : List Int, σ = [some (.ref a), some (.int m), some (.ref c), some (.int (1 + (m : Int) / dv)), some (.ref o), z5, z6] ∧ Same H H3 ∧ H3 o = some (.lst (ns'.map V.int)) ∧ ns'.length ≤ 400000 ∧ Nums ns')
        (fun σ H3 => match H3 o with | some (.lst xs) => m - xs.length | _ => 0) ⟨ns, rfl, sm, ho, by omega, hn⟩ ?_ ?_
      · rintro σ H3 ⟨ns', rfl, s3, ho3, hl3, hn3⟩
        refine ⟨.ref o, rfl, o, _, rfl, .inl (sq ho3), _, rfl, _, _, rfl, rfl, _, rfl, ?_⟩
        rw [List.length_map]
        refine ite2 (fun hlt => ?_) (fun hge => ?_)
        · have hlt' : (ns'.length : Int) < m := of_decide_eq_true hlt
          refine ⟨.ref o, rfl, .inl ⟨rfl, _, sq ho3⟩, o, _, _, rfl, rfl, ho3, by rw [List.length_map]; exact szlt (by omega), ?_⟩
          refine ⟨⟨ns' ++ [0], rfl, same_mut s3 no', by rw [upd_same, map_snoc], by rw [List.length_append]; show ns'.length + 1 ≤ 400000; omega, hn3.snoc (by decide) (by decide)⟩, ?_⟩
          rw [upd_same, ho3]
          show m - (ns'.map V.int ++ [V.int 0]).length < m - (ns'.map V.int).length
          rw [List.length_append, List.length_map]
          show m - (ns'.length + 1) < m - ns'.length
          omega
        · have hge' : ¬ (ns'.length : Int) < m := of_decide_eq_false (Bool.eq_false_iff.mpr hge)
          refine ⟨_, rfl, _, rfl, (m : Int), rfl, o, _, rfl, sq ho3, fun p np => ?_⟩
          rw [cut_list, ← List.map_take]
          refine q _ p (ns'.take m) (same_mut s3 (s3.free np)) (s3.free np) upd_same (by rw [List.length_take]; omega) fun n h => hn3 n (List.mem_of_mem_take h)
      · rintro σ H Q Q' hq ⟨v, hv, p, ys, e0, hs, v1, hv1, i, j, e1, e2, k, e3, r⟩
        exact ⟨v, hv, p, ys, e0, hs, v1, hv1, i, j, e1, e2, k, e3, hq _ _ r⟩
/-! ### _law_names: names that differ in one place -/
def getI (ns : List Int) (i : Nat) : Int := ns.getD i 0
def chK (i : Int) : Nat := alph.getD i.toNat 0
theorem at_chK (i : Int) (h0 : 0 ≤ i) (h1 : i < 36) : chK i ∈ alph ∧ atI ("abcdefghijklmnopqrstuvwxyz0123456789" : Str).cps.toList i = some (chK i) := by
  have hl : i.toNat < alph.length := by rw [alph_len]; omega
  have e : chK i = alph[i.toNat] := by
    unfold chK
    rw [List.getD_eq_getElem?_getD, List.getElem?_eq_getElem hl]
    rfl
  have e2 := atI_nat (xs := alph) (j := i.toNat) (List.getElem?_eq_getElem hl)
  rw [Int.toNat_of_nonneg h0] at e2
  exact ⟨by rw [e]; exact List.getElem_mem hl, by rw [e]; exact e2⟩
theorem alph_nodup : alph.Nodup := by decide +kernel
theorem chK_inj {i j : Int} (hi : 0 ≤ i) (hi2 : i < 36) (hj : 0 ≤ j) (hj2 : j < 36) (e : chK i = chK j) : i = j := by
  have li : i.toNat < alph.length := by rw [alph_len]; omega
  have lj : j.toNat < alph.length := by rw [alph_len]; omega
  unfold chK at e
  rw [List.getD_eq_getElem?_getD, List.getD_eq_getElem?_getD, List.getElem?_eq_getElem li, List.getElem?_eq_getElem lj] at e
  have := (List.getElem_inj alph_nodup).mp (show alph[i.toNat] = alph[j.toNat] from e)
  omega
def one (c : Nat) : Str := ⟨#[c]⟩
theorem one_al2 {c : Nat} (h : c ∈ alph) : Al (one c) := fun d hd => by
  have : d = c := by simpa [one] using hd
  rw [this]
  exact h
theorem nodup_map {α β : Type} (f : α → β) : ∀ xs : List α, (∀ x ∈ xs, ∀ y ∈ xs, f x = f y → x = y) → xs.Nodup → (xs.map f).Nodup
  | [], _, _ => List.nodup_nil
  | x :: xs, h, nd => by
    rw [List.nodup_cons] at nd
    rw [List.map_cons, List.nodup_cons]
    refine ⟨fun hm => ?_, nodup_map f xs (fun a ha b hb => h a (List.mem_cons_of_mem _ ha) b (List.mem_cons_of_mem _ hb)) nd.2⟩
    obtain ⟨y, hy, e⟩ := List.mem_map.mp hm
    have := h y (List.mem_cons_of_mem _ hy) x List.mem_cons_self e
    exact nd.1 (this ▸ hy)
theorem at_get {ns : List Int} (hn : Nums ns) {i : Nat} (h : i < ns.length) : 0 ≤ getI ns i ∧ getI ns i < 1009 ∧ ∀ z : Int, z = (i : Int) → atI (ns.map V.int) z = some (.int (getI ns i)) := by
  have e : getI ns i = ns[i] := by
    unfold getI
    rw [List.getD_eq_getElem?_getD, List.getElem?_eq_getElem h]
    rfl
  have hm := hn _ (List.getElem_mem h)
  refine ⟨by rw [e]; exact hm.1, by rw [e]; exact hm.2, fun z hz => ?_⟩
  rw [hz, e]
  exact atI_nat (by rw [List.getElem?_map, List.getElem?_eq_getElem h]; rfl)
theorem at_ch (i : Int) (h0 : 0 ≤ i) (h1 : i < 36) : ∃ c, c ∈ alph ∧ atI ("abcdefghijklmnopqrstuvwxyz0123456789" : Str).cps.toList i = some c := by
  obtain ⟨c, hc, _, e⟩ := at_in alph i h0 (by rw [alph_len]; exact h1)
  exact ⟨c, hc, e⟩
theorem one_al {c : Nat} (h : c ∈ alph) : (⟨#[c]⟩ : Str).length = 1 ∧ Al (⟨#[c]⟩ : Str) := ⟨rfl, fun d hd => by
  have : d = c := by simpa using hd
  rw [this]
  exact h⟩
theorem name_of {rest : Str} {P : Int} {c : Nat} (hP : 0 ≤ P) (hr : Al rest) (hl : rest.length ≤ 11) (hc : c ∈ alph) : Nm (cutS rest none (some P) ++ ⟨#[c]⟩ ++ cutS rest (some P) none) := by
  obtain ⟨p, rfl⟩ : ∃ p : Nat, P = (p : Int) := ⟨P.toNat, (Int.toNat_of_nonneg hP).symm⟩
  have h1 := cut_take rest p
  have h2 := cut_drop rest p
  have l : (List.take p rest.cps.toList ++ List.drop p rest.cps.toList).length = rest.length := by rw [List.take_append_drop, len_tl]
  rw [List.length_append] at l
  refine ⟨?_, ?_, ?_⟩
  · rw [app_len, app_len]
    show 1 ≤ _ + 1 + _
    omega
  · rw [app_len, app_len, len_tl (cutS rest none _), len_tl (cutS rest _ none), h1, h2]
    show _ + 1 + _ ≤ 12
    omega
  · refine Al.app (Al.app (fun d hd => ?_) (one_al hc).2) (fun d hd => ?_)
    · rw [h1] at hd
      exact hr d (List.mem_of_mem_take hd)
    · rw [h2] at hd
      exact hr d (List.mem_of_mem_drop hd)
def nameB (rest : Str) (P : Int) (y : Int) (k : Nat) : Str := cutS rest none (some P) ++ one (chK ((y + 5 * (k : Int)) % 36)) ++ cutS rest (some P) none
theorem nameB_nm {rest : Str} {P y : Int} (hP : 0 ≤ P) (hr : Al rest) (hl : rest.length ≤ 11) (k : Nat) : Nm (nameB rest P y k) := name_of hP hr hl (at_chK _ (Int.emod_nonneg _ (by decide)) (Int.emod_lt_of_pos _ (by decide))).1
theorem nameB_inj {rest : Str} {P y : Int} {i j : Nat} (hi : i < 36) (hj : j < 36) (e : nameB rest P y i = nameB rest P y j) : i = j := by
  have e2 := congrArg (fun z : Str => z.cps.toList) e
  unfold nameB at e2
  rw [app_tl, app_tl, app_tl, app_tl] at e2
  have e3 := List.append_cancel_left (List.append_cancel_right e2)
  have e4 : chK ((y + 5 * (i : Int)) % 36) = chK ((y + 5 * (j : Int)) % 36) := by
    have : ([chK ((y + 5 * (i : Int)) % 36)] : List Nat) = [chK ((y + 5 * (j : Int)) % 36)] := e3
    exact List.head_eq_of_cons_eq this
  have e5 := chK_inj (Int.emod_nonneg _ (by decide)) (Int.emod_lt_of_pos _ (by decide)) (Int.emod_nonneg _ (by decide)) (Int.emod_lt_of_pos _ (by decide)) e4
  omega
theorem namesB_nodup {rest : Str} {P y : Int} {m : Nat} (hm : m ≤ 36) : ((List.range m).map (nameB rest P y)).Nodup :=
  nodup_map _ _ (fun i hi j hj e => nameB_inj (by have := List.mem_range.mp hi; omega) (by have := List.mem_range.mp hj; omega) e) List.nodup_range
def spNames (K : PySem.W.Frag) : Sp := fun vs H Q _ => ∃ (x y : Int) (m : Nat), vs = [.int x, .int y, .int m] ∧ (0 ≤ x ∧ x < 1009) ∧ (0 ≤ y ∧ y < 1009) ∧ m ≤ 36 ∧
  ∀ H' p (zs : List Str), Same H H' → H p = none → H' p = some (.lst (zs.map V.str)) → zs.length = m → (∀ z ∈ zs, Nm z) → zs.Nodup → Q (.ref p) H'
theorem scNames : FnScope ["number", "other", "many", "chars", "size", "rest", "place", "k"] ["number", "other", "many"] (defScope sLawNames) := ⟨rfl, rfl, rfl, by decide +kernel, rfl, by decide +kernel, by decide +kernel⟩
theorem ok_names {f : Addr} {fd : FuncData} {k : Nat} (F : Fun K "_law_names" "_law_names" sLawNames f fd) (mi : mg "int" = none) (mr : mg "range" = none) : FnOk P w K mg base CX0 (k + 1) f fd ["number", "other", "many"] (spNames K) := by
  refine F.ok scNames (fun vs H Q E h => ?_) (fun cdv A outer s H vs Q E hr h => ?_)
  · obtain ⟨x, y, m, rfl, _⟩ := h
    rfl
  · obtain ⟨x, y, m, rfl, ⟨hx0, hx1⟩, ⟨hy0, hy1⟩, hm, q⟩ := h
    refine ⟨_, pss_cons (ps_set (i := 3) scNames.nd rfl (.inr rfl) pe_str)
      (pss_cons (ps_set (i := 4) scNames.nd rfl (.inl rfl) (pe_ix ix_list (pe_lst (pa_cons pe_int (pa_cons pe_int (pa_cons pe_int (pa_cons pe_int pa_nil))))) (pe_op op_mod (pe_callTy call_int1 (by rfl) mi (by decide +kernel) (pa_cons (pv 0) pa_nil)) pe_int) (fun _ _ => rfl)))
      (pss_cons (ps_set (i := 5) scNames.nd rfl (.inr rfl) (pe_bm PySem.F.plainAttrs_str PySem.F.slot_str_join PySem.F.type_str_join mt_join pe_str (pa_cons
        (pe_lc (own := [("k", 7)]) (g := gName 7) (tt := tYes) rfl scNames.nd (pi_range1 rfl mr (pa_cons (pv 4) pa_nil)) (blkOk_by (N := ["number", "other", "many", "chars", "size", "rest", "place", "k"]) (sc := defScope sLawNames) (by decide +kernel)) (fun _ _ _ _ _ => pg_name (i := 7) scNames.nd rfl (Or.inl rfl)) (fun _ _ _ _ _ => pts_nil)
          (fun _ _ _ _ _ => pe_ix ix_str (pv 3) (pe_op op_mod (pe_callTy call_int1 (by rfl) mi (by decide +kernel) (pa_cons (pe_op op_add (pe_op op_add (pv 1) (pe_op op_mul (pe_op op_mul pe_int (pv 7)) (pv 7))) (pe_op op_mul (pv 0) (pv 7))) pa_nil)) pe_int) (fun _ _ => rfl))) pa_nil)))
      (pss_cons (ps_set (i := 6) scNames.nd rfl (.inr rfl) (pe_op op_mod (pe_callTy call_int1 (by rfl) mi (by decide +kernel) (pa_cons (pe_op op_add (pe_op op_fdiv (pv 0) pe_int) (pv 1)) pa_nil)) (pe_op op_add (pv 4) pe_int)))
      (pss_one (ps_ret (pe_lc (own := [("k", 7)]) (g := gName 7) (tt := tYes) rfl scNames.nd (pi_range1 rfl mr (pa_cons (pv 2) pa_nil)) (blkOk_by (N := ["number", "other", "many", "chars", "size", "rest", "place", "k"]) (sc := defScope sLawNames) (by decide +kernel)) (fun _ _ _ _ _ => pg_name (i := 7) scNames.nd rfl (Or.inl rfl)) (fun _ _ _ _ _ => pts_nil)
          (fun _ _ _ _ _ => pe_op op_add_str (pe_op op_add_str (pe_slice sl_str (pv 5) po_none (po_some (pv 6))) (pe_ix ix_str (pv 3) (pe_op op_mod (pe_callTy call_int1 (by rfl) mi (by decide +kernel) (pa_cons (pe_op op_add (pv 1) (pe_op op_mul pe_int (pv 7))) pa_nil)) pe_int) (fun _ _ => rfl))) (pe_slice sl_str (pv 5) (po_some (pv 6)) po_none)))))))), ?_⟩
    have b64 : (2 : Int) ^ 64 = 18446744073709551616 := by decide
    -- size
    refine ⟨by show 4 ≤ sizeLine; decide, fun l nl => ?_⟩
    have s1 : Same H (upd H l (.lst [.int 0, .int 1, .int 3, .int 11])) := same_upd nl
    refine ⟨_, rfl, .inl ⟨_, rfl, _, _, rfl, rfl, (by show (0 : Int) < 4; decide), ?_⟩⟩
    obtain ⟨sz, hsz, hat⟩ : ∃ sz : Nat, sz ≤ 11 ∧ atI ([.int 0, .int 1, .int 3, .int 11] : List V) (x % 4) = some (.int sz) := by
      have h0 := Int.emod_nonneg x (show (4 : Int) ≠ 0 by decide)
      have h1 := Int.emod_lt_of_pos x (show (0 : Int) < 4 by decide)
      have : x % 4 = 0 ∨ x % 4 = 1 ∨ x % 4 = 2 ∨ x % 4 = 3 := by omega
      rcases this with e | e | e | e <;> rw [e]
      · exact ⟨0, by decide, rfl⟩
      · exact ⟨1, by decide, rfl⟩
      · exact ⟨3, by decide, rfl⟩
      · exact ⟨11, by decide, rfl⟩
    refine ⟨l, _, _, _, rfl, rfl, sq upd_same, hat, ?_⟩
    -- rest = ''.join([..])
    refine ⟨rfl, _, rfl, (sz : Int), rfl, by omega, by omega, fun D hD => ?_⟩
    generalize hH1 : upd H l (.lst [.int 0, .int 1, .int 3, .int 11]) = H1 at *
    refine lc_range (lo := 0) (n := (sz : Int).toNat) (fun i H2 => ∃ zs : List Str, Same H1 H2 ∧ H2 D = some (.lst (zs.map V.str)) ∧ zs.length = i ∧ ∀ z ∈ zs, z.length = 1 ∧ Al z)
      ⟨[], same_upd hD, upd_same, rfl, fun z hz => by cases hz⟩ ?_ ?_
    · rintro i H2 hi ⟨zs, sm, hz, hl, ha⟩
      refine ⟨rfl, ?_⟩
      refine yesT ?_
      refine ⟨_, rfl, _, rfl, _, rfl, _, _, rfl, rfl, .inl ⟨by decide, by decide⟩, _, rfl, _, _, rfl, rfl, .inr ⟨by omega, by omega⟩, _, _, rfl, rfl, _, rfl, _, rfl, _, _, rfl, rfl, .inl ⟨by omega, by omega⟩, _, _, rfl, rfl, .inl ⟨_, rfl, _, _, rfl, rfl, (by show (0 : Int) < 36; decide), ?_⟩⟩
      obtain ⟨c, hc, e⟩ := at_ch _ (Int.emod_nonneg (y + 7 * (0 + (i : Int)) * (0 + (i : Int)) + x * (0 + (i : Int))) (show (36 : Int) ≠ 0 by decide)) (Int.emod_lt_of_pos _ (by decide))
      refine ⟨_, _, c, rfl, rfl, by decide, e, _, hz, by rw [List.length_map]; exact szlt (by omega), zs ++ [⟨#[c]⟩], same_mut sm hD, by rw [upd_same, map_snoc], by rw [List.length_append, hl]; rfl, fun z hz => ?_⟩
      rcases List.mem_append.mp hz with h | h
      · exact ha z h
      · rw [List.mem_singleton.mp h]
        exact one_al hc
    · rintro H2 ⟨zs, sm, hz, hl, ha⟩
      have jk := join_ok zs ha
      have hl' : zs.length ≤ 11 := by omega
      have hsum : (zs.map (·.length)).sum + zs.length * (0 : Nat) ≤ 16777216 := by
        have : ∀ ws : List Str, (∀ z ∈ ws, z.length = 1 ∧ Al z) → (ws.map (·.length)).sum = ws.length := by
          intro ws
          induction ws with
          | nil => intro _; rfl
          | cons z r ih =>
            intro h
            rw [List.map_cons, List.sum_cons, (h z List.mem_cons_self).1, ih fun u hu => h u (List.mem_cons_of_mem _ hu), List.length_cons]
            omega
        rw [this zs ha]
        omega
      refine ⟨_, D, zs, rfl, rfl, .inl (sq hz), hsum, ?_⟩
      rw [TL.join_eq]
      generalize Str.join "" zs = rest at jk
      obtain ⟨jl, ja⟩ := jk
      have hrl : rest.length ≤ 11 := by omega
      -- place
      refine ⟨_, rfl, _, _, rfl, rfl, ⟨by decide, by decide⟩, _, rfl, _, _, rfl, rfl, .inl ⟨_, rfl, _, rfl, _, _, rfl, rfl, _, _, rfl, rfl, (by omega), ?_⟩⟩
      have hp : 0 ≤ (x / 4 + y) % ((sz : Int) + 1) := Int.emod_nonneg _ (by omega)
      -- the names
      refine ⟨_, rfl, (m : Int), rfl, by omega, by omega, fun D2 hD2 => ?_⟩
      refine lc_range (lo := 0) (n := (m : Int).toNat) (fun i H3 => Same H2 H3 ∧ H3 D2 = some (.lst (((List.range i).map (nameB rest ((x / 4 + y) % ((sz : Int) + 1)) y)).map V.str)))
        ⟨same_upd hD2, upd_same⟩ ?_ ?_
      · rintro i H3 hi ⟨sm3, hw⟩
        refine ⟨rfl, ?_⟩
        refine yesT ?_
        have e := (at_chK ((y + 5 * (0 + (i : Int))) % 36) (Int.emod_nonneg _ (by decide)) (Int.emod_lt_of_pos _ (by decide))).2
        have lt := cutS_length rest none (some ((x / 4 + y) % ((sz : Int) + 1)))
        have ld := cutS_length rest (some ((x / 4 + y) % ((sz : Int) + 1))) none
        refine ⟨_, rfl, _, rfl, _, rfl, rest, rfl, szl (by omega), _, rfl, _, rfl, _, rfl, _, _, rfl, rfl, .inl ⟨by decide, by decide⟩, _, _, rfl, rfl, .inl ⟨_, rfl, _, _, rfl, rfl, (by show (0 : Int) < 36; decide), _, _, _, rfl, rfl, by decide, e, ?_⟩⟩
        refine ⟨_, _, rfl, rfl, szl (by show _ + 1 ≤ 1000000; omega), _, rfl, _, rfl, _, rfl, rest, rfl, szl (by omega), _, _, rfl, rfl, szl (by rw [app_len]; show _ + 1 + _ ≤ 1000000; omega), ?_⟩
        refine ⟨_, hw, by rw [List.length_map, List.length_map, List.length_range]; exact szlt (by omega), same_mut sm3 hD2, ?_⟩
        rw [upd_same, List.range_succ, List.map_append, List.map_append]
        show some (HO.lst (_ ++ [V.str (_ ++ _ ++ _)])) = _
        rw [show (0 + (i : Int)) = (i : Int) by omega]
        rfl
      · rintro H3 ⟨sm3, hw⟩
        have sA : Same H H3 := s1.trans (sm.trans sm3)
        rw [show (m : Int).toNat = m by omega] at hw
        exact q H3 D2 _ sA ((s1.trans sm).free hD2) hw (by rw [List.length_map, List.length_range]) (fun z hz => by
          obtain ⟨k, _, rfl⟩ := List.mem_map.mp hz
          exact nameB_nm hp ja hrl k) (namesB_nodup hm)
/-! ### the second family of laws: _law_loads, _law_contact -/
@[irreducible] def rModW : R2 := rI (fun _ j => 0 < j) fun i j => .int (i % j)
theorem op_modW {X : Cx} : OpR X (binaryOp .Mod) rModW := by
  unfold rModW
  exact op_mod
theorem modE {i j : Int} {H : Hp} {Q : VK} (h : 0 < j) (q : ∀ n : Nat, (n : Int) = i % j → (n : Int) < j → Q (.int (n : Int)) H) : rModW (.int i) (.int j) H Q := by
  unfold rModW
  obtain ⟨n, e⟩ : ∃ n : Nat, i % j = (n : Int) := ⟨_, (Int.toNat_of_nonneg (Int.emod_nonneg i (by omega))).symm⟩
  have hl := Int.emod_lt_of_pos i h
  refine ⟨i, j, rfl, rfl, h, ?_⟩
  show Q (.int (i % j)) H
  rw [e] at hl ⊢
  exact q n e.symm hl
theorem two_ne {n f d : Int} (hn : 2 ≤ n) (f0 : 0 ≤ f) (f1 : f < n) (d0 : 0 ≤ d) (d1 : d < n - 1) : (f + 1 + d) % n ≠ f := by
  by_cases h : f + 1 + d < n
  · rw [Int.emod_eq_of_lt (by omega) h]
    omega
  · have e : f + 1 + d = (f + 1 + d - n) + n := by omega
    rw [e, Int.add_emod_right, Int.emod_eq_of_lt (by omega) (by omega)]
    omega
theorem at_str {zs : List Str} (i : Int) (h0 : 0 ≤ i) (h1 : i < (zs.length : Int)) : ∃ z, z ∈ zs ∧ zs[i.toNat]? = some z ∧ atI (zs.map V.str) i = some (.str z) := by
  have hl : i.toNat < zs.length := by omega
  refine ⟨zs[i.toNat], List.getElem_mem hl, List.getElem?_eq_getElem hl, ?_⟩
  have e := atI_nat (xs := zs.map V.str) (j := i.toNat) (by rw [List.getElem?_map, List.getElem?_eq_getElem hl]; rfl)
  rwa [Int.toNat_of_nonneg h0] at e
theorem pick2 (s t : Str) (i : Int) (h0 : 0 ≤ i) : ∃ z, z ∈ [s, t] ∧ atI ([.str s, .str t] : List V) (i % 2) = some (.str z) := by
  have a0 := Int.emod_nonneg i (show (2 : Int) ≠ 0 by decide)
  have a1 := Int.emod_lt_of_pos i (show (0 : Int) < 2 by decide)
  obtain ⟨z, hz, _, e⟩ := at_str (zs := [s, t]) (i % 2) a0 a1
  exact ⟨z, hz, e⟩
theorem ctB_mk {zs ms : List Str} {c : Ct} (h1 : c.one ∈ zs) (h2 : c.oth ∈ zs) (h3 : c.one ≠ c.oth) (hw : c.way ∈ [bothS, forwardS]) (hm : match c.mv with | none => c.whn = makeS | some m => m ∈ ms ∧ c.whn ∈ [makeS, breakS]) : ctB zs ms c = true := by
  unfold ctB
  rw [decide_eq_true h1, decide_eq_true h2, decide_eq_false h3, decide_eq_true hw]
  cases e : c.mv with
  | none =>
    rw [e] at hm
    dsimp only at hm ⊢
    rw [decide_eq_true hm]
    rfl
  | some m =>
    rw [e] at hm
    dsimp only at hm ⊢
    rw [decide_eq_true hm.1, decide_eq_true hm.2]
    rfl
def LoadOk (zs : List Str) (r : Sp3) : Prop := r.one ∈ zs ∧ r.oth ∈ zs ∧ r.one ≠ r.oth
theorem Rows.updl {K : PySem.W.Frag} {H : Hp} {o : Addr} {l0 : List V} {ho : HO} (h : H o = some (.lst l0)) : ∀ {xs : List V} {rs : List (List V)}, Rows K H xs rs → Rows K (upd H o ho) xs rs
  | [], [], _ => True.intro
  | _ :: _, _ :: _, ⟨⟨t, e, q⟩, r⟩ => by
    refine ⟨⟨t, e, ?_⟩, r.updl h⟩
    rcases q with (q | ⟨u, q⟩) | q
    · exact .inl (.inl (by rw [upd_ne (ne_of q h (by intro z; cases z))]; exact q))
    · exact .inl (.inr ⟨u, by rw [upd_ne (ne_of q h (by intro z; cases z))]; exact q⟩)
    · exact .inr q
theorem at_strN {zs : List Str} {i : Nat} (h : i < zs.length) : ∃ z, z ∈ zs ∧ zs[i]? = some z ∧ atI (zs.map V.str) (i : Int) = some (.str z) :=
  ⟨zs[i], List.getElem_mem h, List.getElem?_eq_getElem h, atI_nat (by rw [List.getElem?_map, List.getElem?_eq_getElem h]; rfl)⟩
def spLoads (K : PySem.W.Frag) : Sp := fun vs H Q _ => ∃ (a nm nl : Addr) (ns : List Int) (at_ : Nat) (ws zs : List Str), vs = [.ref a, .int at_, .int ws.length, .ref nm, .ref nl] ∧ SqL K H a (ns.map V.int) ∧ Nums ns ∧ at_ + 2 * ws.length ≤ ns.length ∧ SqL K H nm (ws.map V.str) ∧ ws.length ≤ 1000 ∧
  SqL K H nl (zs.map V.str) ∧ 2 ≤ zs.length ∧ zs.length ≤ 1000 ∧ zs.Nodup ∧
  ∀ H' p xs (rs : List Sp3), Same H H' → H p = none → H' p = some (.lst xs) → Rows K H' xs (rs.map Sp3.row) → rs.map (·.nm) = ws → (∀ r ∈ rs, LoadOk zs r) → Q (.ref p) H'
theorem scLoads : FnScope ["numbers", "at", "many", "names", "nodes", "loads", "k", "one", "other"] ["numbers", "at", "many", "names", "nodes"] (defScope sLawLoads) := ⟨rfl, rfl, rfl, by decide +kernel, rfl, by decide +kernel, by decide +kernel⟩
theorem ok_loads {f : Addr} {fd : FuncData} {k : Nat} (F : Fun K "_law_loads" "_law_loads" sLawLoads f fd)
    (mi : mg "int" = none) (ml : mg "len" = none) (mr : mg "range" = none) : FnOk P w K mg base CX0 (k + 1) f fd ["numbers", "at", "many", "names", "nodes"] (spLoads K) := by
  refine F.ok scLoads (fun vs H Q E h => ?_) (fun cdv A outer s H vs Q E hr h => ?_)
  · obtain ⟨a, nm, nl, ns, at_, ws, zs, rfl, _⟩ := h
    rfl
  · obtain ⟨a, nm, nl, ns, at_, ws, zs, rfl, hS, hn, hat, hW, w3, hN, z2, z3, nd, q⟩ := h
    refine ⟨_, pss_cons (ps_set (i := 5) scLoads.nd rfl (.inl rfl) (pe_lst pa_nil))
      (pss_cons (ps_for PassesOwn.never rfl (pi_range1 rfl mr (pa_cons (pv 2) pa_nil)) (pg_name (i := 6) scLoads.nd rfl (.inl rfl))
        (pss_cons (ps_set (i := 7) scLoads.nd rfl (.inl rfl) (pe_op op_modW (pe_callTy call_int1 (by rfl) mi (by decide +kernel) (pa_cons (pe_ix ix_list (pv 0) (pe_op op_add (pv 1) (pe_op op_mul pe_int (pv 6))) (fun _ _ => rfl)) pa_nil)) (pe_callB call_len_seq (by rfl) ml PySem.boot_len (pa_cons (pv 4) pa_nil))))
        (pss_cons (ps_set (i := 8) scLoads.nd rfl (.inl rfl) (pe_op op_modW (pe_op op_add (pe_op op_add (pv 7) pe_int) (pe_op op_modW (pe_callTy call_int1 (by rfl) mi (by decide +kernel) (pa_cons (pe_ix ix_list (pv 0) (pe_op op_add (pe_op op_add (pv 1) (pe_op op_mul pe_int (pv 6))) pe_int) (fun _ _ => rfl)) pa_nil)) (pe_op op_sub (pe_callB call_len_seq (by rfl) ml PySem.boot_len (pa_cons (pv 4) pa_nil)) pe_int))) (pe_callB call_len_seq (by rfl) ml PySem.boot_len (pa_cons (pv 4) pa_nil))))
        (pss_one (ps_expr (pe_bm PySem.F.plainAttrs_list PySem.F.slot_list_append PySem.F.type_list_append mt_append (pv 5) (pa_cons (pe_tup (pa_cons (pe_ix ix_list (pv 3) (pv 6) (fun _ _ => rfl)) (pa_cons (pe_ix ix_list (pv 4) (pv 7) (fun _ _ => rfl)) (pa_cons (pe_ix ix_list (pv 4) (pv 8) (fun _ _ => rfl)) pa_nil)))) pa_nil)))))))
      (pss_one (ps_ret (pv 5)))), ?_⟩
    refine ⟨Nat.zero_le _, fun o no => ?_⟩
    have s1 : Same H (upd H o (.lst [])) := same_upd no
    refine ⟨_, rfl, (ws.length : Int), rfl, by omega, by omega, ?_⟩
    refine for_range (lo := 0) (n := (ws.length : Int).toNat) (fun i σ H2 => ∃ (z6 z7 z8 : Option V) (xs : List V) (rs : List Sp3), σ = [some (.ref a), some (.int at_), some (.int ws.length), some (.ref nm), some (.ref nl), some (.ref o), z6, z7, z8] ∧ Same H H2 ∧ H2 o = some (.lst xs) ∧ Rows K H2 xs (rs.map Sp3.row) ∧ rs.map (·.nm) = ws.take i ∧ ∀ r ∈ rs, LoadOk zs r)
      ⟨none, none, none, [], [], rfl, s1, upd_same, True.intro, by simp, fun r hr => by cases hr⟩ ?_ ?_
    · rintro i σ H2 hi ⟨z6, z7, z8, xs, rs, rfl, sm, ho, hR, hnm, hok⟩
      have hi2 : i < ws.length := by omega
      have hL : ((zs.map V.str).length : Int) = (zs.length : Int) := by rw [List.length_map]
      obtain ⟨a0, a1, ga⟩ := at_get hn (show at_ + 2 * i < ns.length by omega)
      obtain ⟨b0, b1, gb⟩ := at_get hn (show at_ + 2 * i + 1 < ns.length by omega)
      refine ⟨_, rfl, _, rfl, _, rfl, _, _, rfl, rfl, .inl ⟨by decide, by decide⟩, _, _, rfl, rfl, a, _, _, _, rfl, rfl, sm.seq hS, ga _ (by omega), .inl ⟨_, rfl, _, rfl, nl, _, rfl, .inl (sm.seq hN), ?_⟩⟩
      refine modE (by rw [hL]; omega) fun u1 _ hu1 => ?_
      rw [hL] at hu1
      refine ⟨_, rfl, _, _, rfl, rfl, _, rfl, _, rfl, _, rfl, _, _, rfl, rfl, .inl ⟨by decide, by decide⟩, _, _, rfl, rfl, _, _, rfl, rfl, a, _, _, _, rfl, rfl, sm.seq hS, gb _ (by omega), .inl ⟨_, rfl, _, rfl, nl, _, rfl, .inl (sm.seq hN), _, _, rfl, rfl, ?_⟩⟩
      refine modE (by rw [hL]; omega) fun d1 _ hd1 => ?_
      rw [hL] at hd1
      refine ⟨_, _, rfl, rfl, _, rfl, nl, _, rfl, .inl (sm.seq hN), ?_⟩
      refine modE (by rw [hL]; omega) fun u2 hu2e hu2 => ?_
      rw [hL] at hu2 hu2e
      have hne := two_ne (n := (zs.length : Int)) (f := (u1 : Int)) (d := (d1 : Int)) (by omega) (by omega) hu1 (by omega) hd1
      obtain ⟨y, hy, iy, ey⟩ := at_strN (zs := ws) hi2
      obtain ⟨u, hu, iu, eu⟩ := at_strN (zs := zs) (i := u1) (by omega)
      obtain ⟨v, hv, iv, evv⟩ := at_strN (zs := zs) (i := u2) (by omega)
      have huv : u ≠ v := fun e => by
        rw [← e] at iv
        have := nd_ix nd iu iv
        omega
      refine ⟨.ref o, rfl, .inl ⟨rfl, _, sq ho⟩, _, rfl, _, rfl, nm, _, _, _, rfl, rfl, sm.seq hW, by rw [show (0 + (i : Int)) = (i : Int) by omega]; exact ey, _, rfl, _, rfl, nl, _, _, _, rfl, rfl, sm.seq hN, eu, _, rfl, _, rfl, nl, _, _, _, rfl, rfl, sm.seq hN, evv, by show 3 ≤ sizeLine; decide, fun t2 nt2 => ?_⟩
      have no2 : o ≠ t2 := ne_of_none ho nt2
      have ho4 : (upd H2 t2 (.tup [.str y, .str u, .str v])) o = some (.lst xs) := by rw [upd_ne no2]; exact ho
      have lR := hR.len
      have lnm := congrArg List.length hnm
      rw [List.length_map, List.length_take] at lnm
      rw [List.length_map] at lR
      refine ⟨o, _, _, rfl, rfl, ho4, szlt (by omega), ?_⟩
      refine ⟨_, _, _, xs ++ [.ref t2], rs ++ [⟨y, u, v⟩], rfl, same_mut (sm.trans (same_upd nt2)) no, upd_same, ?_, ?_, ?_⟩
      · rw [List.map_append]
        refine Rows.snoc ?_ (Rows.updl ho4 (hR.mono (same_upd nt2)))
        exact .inl (.inl (by rw [upd_ne no2.symm]; exact upd_same))
      · rw [List.map_append, hnm, List.take_add_one, iy]
        rfl
      · intro r hr
        rcases List.mem_append.mp hr with h | h
        · exact hok r h
        · rw [List.mem_singleton.mp h]
          exact ⟨hu, hv, huv⟩
    · rintro σ H2 ⟨z6, z7, z8, xs, rs, rfl, sm, ho, hR, hnm, hok⟩
      exact ⟨_, rfl, q H2 o xs rs sm no ho hR (by rw [hnm, show (ws.length : Int).toNat = ws.length by omega, List.take_length]) hok⟩
theorem pick4 (i : Nat) (h : i < 4) : ∃ z, z ∈ [bothS, forwardS] ∧ atI ([.str "both", .str "both", .str "both", .str "forward"] : List V) (i : Int) = some (.str z) := by
  have : i = 0 ∨ i = 1 ∨ i = 2 ∨ i = 3 := by omega
  rcases this with e | e | e | e <;> subst e
  · exact ⟨bothS, List.mem_cons_self, rfl⟩
  · exact ⟨bothS, List.mem_cons_self, rfl⟩
  · exact ⟨bothS, List.mem_cons_self, rfl⟩
  · exact ⟨forwardS, List.mem_cons_of_mem _ List.mem_cons_self, rfl⟩
theorem pickN2 (i : Nat) (h : i < 2) : ∃ z, z ∈ [makeS, breakS] ∧ atI ([.str "make", .str "break"] : List V) (i : Int) = some (.str z) := by
  have : i = 0 ∨ i = 1 := by omega
  rcases this with e | e <;> subst e
  · exact ⟨makeS, List.mem_cons_self, rfl⟩
  · exact ⟨breakS, List.mem_cons_of_mem _ List.mem_cons_self, rfl⟩
def spContact (K : PySem.W.Frag) : Sp := fun vs H Q _ => ∃ (a nl ml : Addr) (ns : List Int) (at_ : Nat) (zs ms : List Str), vs = [.ref a, .int at_, .ref nl, .ref ml] ∧ SqL K H a (ns.map V.int) ∧ Nums ns ∧ at_ + 4 ≤ ns.length ∧
  SqL K H nl (zs.map V.str) ∧ 2 ≤ zs.length ∧ zs.length ≤ 1000 ∧ zs.Nodup ∧ SqL K H ml (ms.map V.str) ∧ ms.length ≤ 1000 ∧
  ∀ H' t (c : Ct), Same H H' → H t = none → H' t = some (.tup c.row) → ctB zs ms c = true → Q (.ref t) H'
theorem scContact : FnScope ["numbers", "at", "nodes", "movers", "one", "other", "which", "way"] ["numbers", "at", "nodes", "movers"] (defScope sLawContact) := ⟨rfl, rfl, rfl, by decide +kernel, rfl, by decide +kernel, by decide +kernel⟩
theorem ok_contact {f : Addr} {fd : FuncData} {k : Nat} (F : Fun K "_law_contact" "_law_contact" sLawContact f fd) (mi : mg "int" = none) (ml : mg "len" = none) : FnOk P w K mg base CX0 (k + 1) f fd ["numbers", "at", "nodes", "movers"] (spContact K) := by
  refine F.ok scContact (fun vs H Q E h => ?_) (fun cdv A outer s H vs Q E hr h => ?_)
  · obtain ⟨a, nl, ml, ns, at_, zs, ms, rfl, _⟩ := h
    rfl
  · obtain ⟨a, nl, mlst, ns, at_, zs, ms, rfl, hS, hn, hat, hN, z2, z3, nd, hM, m3, q⟩ := h
    refine ⟨_, pss_cons (ps_set (i := 4) scContact.nd rfl (.inl rfl) (pe_op op_modW (pe_callTy call_int1 (by rfl) mi (by decide +kernel) (pa_cons (pe_ix ix_list (pv 0) (pv 1) (fun _ _ => rfl)) pa_nil)) (pe_callB call_len_seq (by rfl) ml PySem.boot_len (pa_cons (pv 2) pa_nil))))
      (pss_cons (ps_set (i := 5) scContact.nd rfl (.inl rfl) (pe_op op_modW (pe_op op_add (pe_op op_add (pv 4) pe_int) (pe_op op_modW (pe_callTy call_int1 (by rfl) mi (by decide +kernel) (pa_cons (pe_ix ix_list (pv 0) (pe_op op_add (pv 1) pe_int) (fun _ _ => rfl)) pa_nil)) (pe_op op_sub (pe_callB call_len_seq (by rfl) ml PySem.boot_len (pa_cons (pv 2) pa_nil)) pe_int))) (pe_callB call_len_seq (by rfl) ml PySem.boot_len (pa_cons (pv 2) pa_nil))))
      (pss_cons (ps_set (i := 6) scContact.nd rfl (.inl rfl) (pe_op op_modW (pe_callTy call_int1 (by rfl) mi (by decide +kernel) (pa_cons (pe_ix ix_list (pv 0) (pe_op op_add (pv 1) pe_int) (fun _ _ => rfl)) pa_nil)) (pe_op op_add (pe_callB call_len_seq (by rfl) ml PySem.boot_len (pa_cons (pv 3) pa_nil)) pe_int)))
      (pss_cons (ps_set (i := 7) scContact.nd rfl (.inl rfl) (pe_ix ix_list (pe_lst (pa_cons pe_str (pa_cons pe_str (pa_cons pe_str (pa_cons pe_str pa_nil))))) (pe_op op_modW (pe_callTy call_int1 (by rfl) mi (by decide +kernel) (pa_cons (pe_op op_fdiv (pe_ix ix_list (pv 0) (pe_op op_add (pv 1) pe_int) (fun _ _ => rfl)) pe_int) pa_nil)) pe_int) (fun _ _ => rfl)))
      (C8.pss_cut (ps_if (pt_cmpR op_eq (pv 6) (pe_callB call_len_seq (by rfl) ml PySem.boot_len (pa_cons (pv 3) pa_nil)) (nomark _))
        (pss_cons (ps_if (PW.pt (pw_or (pt_cmpR op_eq (pe_callB call_len_seq (by rfl) ml PySem.boot_len (pa_cons (pv 3) pa_nil)) pe_int (nomark _)) (pw_or1 (pt_cmpR op_eq (pe_op op_modW (pe_callTy call_int1 (by rfl) mi (by decide +kernel) (pa_cons (pe_ix ix_list (pv 0) (pe_op op_add (pv 1) pe_int) (fun _ _ => rfl)) pa_nil)) pe_int) pe_int (nomark _)))))
          (pss_one (ps_ret (pe_tup (pa_cons (pe_ix ix_list (pv 2) (pv 4) (fun _ _ => rfl)) (pa_cons (pe_ix ix_list (pv 2) (pv 5) (fun _ _ => rfl)) (pa_cons pe_non (pa_cons pe_str (pa_cons (pv 7) pa_nil)))))))) pss_nil)
        (pss_one (ps_set (i := 6) scContact.nd rfl (.inl rfl) (pe_op op_modW (pe_callTy call_int1 (by rfl) mi (by decide +kernel) (pa_cons (pe_ix ix_list (pv 0) (pe_op op_add (pv 1) pe_int) (fun _ _ => rfl)) pa_nil)) (pe_callB call_len_seq (by rfl) ml PySem.boot_len (pa_cons (pv 3) pa_nil)))))) pss_nil)
      (pss_one (ps_ret (pe_tup (pa_cons (pe_ix ix_list (pv 2) (pv 4) (fun _ _ => rfl)) (pa_cons (pe_ix ix_list (pv 2) (pv 5) (fun _ _ => rfl)) (pa_cons (pe_ix ix_list (pv 3) (pv 6) (fun _ _ => rfl)) (pa_cons (pe_ix ix_list (pe_lst (pa_cons pe_str (pa_cons pe_str pa_nil))) (pe_op op_modW (pe_callTy call_int1 (by rfl) mi (by decide +kernel) (pa_cons (pe_op op_fdiv (pe_ix ix_list (pv 0) (pe_op op_add (pv 1) pe_int) (fun _ _ => rfl)) pe_int) pa_nil)) pe_int) (fun _ _ => rfl)) (pa_cons (pv 7) pa_nil)))))))))))), ?_⟩
    have hL : ((zs.map V.str).length : Int) = (zs.length : Int) := by rw [List.length_map]
    have hM2 : ((ms.map V.str).length : Int) = (ms.length : Int) := by rw [List.length_map]
    obtain ⟨a0, a1, ga⟩ := at_get hn (show at_ < ns.length by omega)
    obtain ⟨b0, b1, gb⟩ := at_get hn (show at_ + 1 < ns.length by omega)
    obtain ⟨c0, c1, gc⟩ := at_get hn (show at_ + 2 < ns.length by omega)
    obtain ⟨d0, d1, gd⟩ := at_get hn (show at_ + 3 < ns.length by omega)
    refine ⟨_, rfl, _, rfl, a, _, _, _, rfl, rfl, hS, ga _ rfl, .inl ⟨_, rfl, _, rfl, nl, _, rfl, .inl hN, ?_⟩⟩
    refine modE (by rw [hL]; omega) fun u1 _ hu1 => ?_
    rw [hL] at hu1
    refine ⟨_, rfl, _, _, rfl, rfl, _, rfl, _, rfl, _, _, rfl, rfl, a, _, _, _, rfl, rfl, hS, gb _ (by omega), .inl ⟨_, rfl, _, rfl, nl, _, rfl, .inl hN, _, _, rfl, rfl, ?_⟩⟩
    refine modE (by rw [hL]; omega) fun e1 _ he1 => ?_
    rw [hL] at he1
    refine ⟨_, _, rfl, rfl, _, rfl, nl, _, rfl, .inl hN, ?_⟩
    refine modE (by rw [hL]; omega) fun u2 hu2e hu2 => ?_
    rw [hL] at hu2 hu2e
    have hne := two_ne (n := (zs.length : Int)) (f := (u1 : Int)) (d := (e1 : Int)) (by omega) (by omega) hu1 (by omega) he1
    obtain ⟨u, hu, iu, eu⟩ := at_strN (zs := zs) (i := u1) (by omega)
    obtain ⟨v, hv, iv, evv⟩ := at_strN (zs := zs) (i := u2) (by omega)
    have huv : u ≠ v := fun e => by
      rw [← e] at iv
      have := nd_ix nd iu iv
      omega
    -- which
    refine ⟨_, rfl, _, rfl, _, _, rfl, rfl, a, _, _, _, rfl, rfl, hS, gc _ (by omega), .inl ⟨_, rfl, _, rfl, mlst, _, rfl, .inl hM, _, _, rfl, rfl, ?_⟩⟩
    refine modE (by rw [hM2]; omega) fun wc _ hwc => ?_
    rw [hM2] at hwc
    -- way
    refine ⟨by show 4 ≤ sizeLine; decide, fun o no => ?_⟩
    have s1 := same_upd (o := .lst [.str "both", .str "both", .str "both", .str "forward"]) no
    refine ⟨_, rfl, _, rfl, _, _, rfl, rfl, a, _, _, _, rfl, rfl, s1.seq hS, gd _ (by omega), _, _, rfl, rfl, ⟨by decide, by decide⟩, .inl ⟨_, rfl, ?_⟩⟩
    refine modE (by decide) fun w4 _ hw4 => ?_
    obtain ⟨wy, hwy, ewy⟩ := pick4 w4 (by omega)
    refine ⟨o, _, _, _, rfl, rfl, sq upd_same, ewy, ?_⟩
    generalize upd H o (.lst [.str "both", .str "both", .str "both", .str "forward"]) = H1 at *
    have hS := s1.seq hS
    have hN := s1.seq hN
    have hM := s1.seq hM
    refine ⟨fun σ G => ∃ i : Nat, σ = [some (.ref a), some (.int at_), some (.ref nl), some (.ref mlst), some (.int u1), some (.int u2), some (.int i), some (.str wy)] ∧ G = H1 ∧ i < ms.length, ?_, ?_⟩
    · refine ⟨_, rfl, _, rfl, mlst, _, rfl, .inl hM, rfl, _, rfl, ?_⟩
      refine ite2 (fun e => ?_) (fun e => ?_)
      · refine ⟨_, rfl, mlst, _, rfl, .inl hM, rfl, _, rfl, ?_⟩
        refine ite2 (fun e2 => ?_) (fun e2 => ?_)
        · refine ⟨_, rfl, _, rfl, nl, _, _, _, rfl, rfl, hN, eu, _, rfl, _, rfl, nl, _, _, _, rfl, rfl, hN, evv, _, rfl, by show 5 ≤ sizeLine; decide, fun t2 nt2 => ?_⟩
          exact q _ t2 ⟨u, v, none, makeS, wy⟩ (s1.trans (same_upd nt2)) (s1.free nt2) upd_same (ctB_mk hu hv huv hwy rfl)
        · have hpos : 0 < ms.length := Nat.pos_of_ne_zero fun z => e2 (decide_eq_true (by rw [List.length_map, z]; rfl))
          refine ⟨_, rfl, _, rfl, _, _, rfl, rfl, a, _, _, _, rfl, rfl, hS, gd _ (by omega), .inl ⟨_, rfl, ?_⟩⟩
          refine modE (by decide) fun w3 _ hw3 => ?_
          refine ⟨rfl, _, rfl, ?_⟩
          refine ite2 (fun e3 => ?_) (fun e3 => ?_)
          · refine ⟨_, rfl, _, rfl, nl, _, _, _, rfl, rfl, hN, eu, _, rfl, _, rfl, nl, _, _, _, rfl, rfl, hN, evv, _, rfl, by show 5 ≤ sizeLine; decide, fun t2 nt2 => ?_⟩
            exact q _ t2 ⟨u, v, none, makeS, wy⟩ (s1.trans (same_upd nt2)) (s1.free nt2) upd_same (ctB_mk hu hv huv hwy rfl)
          · refine ⟨_, rfl, _, rfl, _, _, rfl, rfl, a, _, _, _, rfl, rfl, hS, gc _ (by omega), .inl ⟨_, rfl, _, rfl, mlst, _, rfl, .inl hM, ?_⟩⟩
            refine modE (by rw [hM2]; omega) fun wd _ hwd => ?_
            rw [hM2] at hwd
            exact ⟨wd, rfl, rfl, by omega⟩
      · have ne : ¬ (wc : Int) = (ms.length : Int) := fun z => e (decide_eq_true (by rw [hM2, z]))
        exact ⟨wc, rfl, rfl, by omega⟩
    rintro σ G ⟨i, rfl, rfl, hil⟩
    obtain ⟨mo, hmo, _, em⟩ := at_strN (zs := ms) hil
    refine ⟨_, rfl, _, rfl, nl, _, _, _, rfl, rfl, hN, eu, _, rfl, _, rfl, nl, _, _, _, rfl, rfl, hN, evv, _, rfl, _, rfl, mlst, _, _, _, rfl, rfl, hM, em, by show 2 ≤ sizeLine; decide, fun o3 no3 => ?_⟩
    have s3 := same_upd (o := .lst [.str "make", .str "break"]) no3
    refine ⟨_, rfl, _, rfl, _, _, rfl, rfl, a, _, _, _, rfl, rfl, s3.seq hS, gd _ (by omega), _, _, rfl, rfl, ⟨by decide, by decide⟩, .inl ⟨_, rfl, ?_⟩⟩
    refine modE (by decide) fun w2 _ hw2 => ?_
    obtain ⟨wh, hwh, ewh⟩ := pickN2 w2 (by omega)
    refine ⟨o3, _, _, _, rfl, rfl, sq upd_same, ewh, _, rfl, by show 5 ≤ sizeLine; decide, fun t2 nt2 => ?_⟩
    exact q _ t2 ⟨u, v, some mo, wh, wy⟩ ((s1.trans s3).trans (same_upd nt2)) ((s1.trans s3).free nt2) upd_same (ctB_mk hu hv huv hwy ⟨hmo, hwh⟩)
/-! ### _law_board, _law_made -/
/-- the parts of the board b stand at p: a list of five lists -/
def SpecAt (K : PySem.W.Frag) (H : Hp) (p : Addr) (b : Bd) : Prop := ∃ (n s r l c : Addr) (xr xl xc : List V), H p = some (.lst [.ref n, .ref s, .ref r, .ref l, .ref c]) ∧ H n = some (.lst (b.nodes.map V.str)) ∧ H s = some (.lst (b.switches.map V.str)) ∧ H r = some (.lst xr) ∧ H l = some (.lst xl) ∧ H c = some (.lst xc) ∧
  Rows K H xr (b.relays.map Sp3.row) ∧ Rows K H xl (b.lamps.map Sp3.row) ∧ Rows K H xc (b.contacts.map Ct.row)
theorem SpecAt.mono {K : PySem.W.Frag} {H H' : Hp} {p : Addr} {b : Bd} (s : Same H H') : SpecAt K H p b → SpecAt K H' p b
  | ⟨n, s1, r, l, c, xr, xl, xc, h0, h1, h2, h3, h4, h5, h6, h7, h8⟩ => ⟨n, s1, r, l, c, xr, xl, xc, s _ _ h0, s _ _ h1, s _ _ h2, s _ _ h3, s _ _ h4, s _ _ h5, h6.mono s, h7.mono s, h8.mono s⟩
def spBoard (K : PySem.W.Frag) : Sp := fun vs H Q _ => ∃ (a : Addr) (ns : List Int) (big : Bool), vs = [.ref a, .bl big] ∧ SqL K H a (ns.map V.int) ∧ Nums ns ∧ 214 ≤ ns.length ∧ ∀ H' p b, Same H H' → H p = none → SpecAt K H' p b → b.Ok → Few b → Q (.ref p) H'
theorem scBoard : FnScope ["numbers", "big", "sizes", "nodes", "movers", "lamps", "switches", "relays", "contacts", "k"] ["numbers", "big"] (defScope sLawBoard) := ⟨rfl, rfl, rfl, by decide +kernel, rfl, by decide +kernel, by decide +kernel⟩
theorem Nm.ok {z : Str} (h : Nm z) : isNm z = true := isNm_iff.mpr h
theorem areNm_mk {zs : List Str} {lo hi : Nat} (h1 : ∀ z ∈ zs, Nm z) (h2 : zs.Nodup) (h3 : lo ≤ zs.length) (h4 : zs.length ≤ hi) : areNm zs lo hi = true := by
  unfold areNm
  rw [decide_eq_true h2, decide_eq_true h3, decide_eq_true h4, Bool.and_true, Bool.and_true, Bool.and_true, List.all_eq_true]
  exact fun z hz => (h1 z hz).ok
theorem spanB_mk {zs : List Str} {r : Sp3} (h1 : Nm r.nm) (h2 : LoadOk zs r) : spanB zs r = true := by
  unfold spanB
  rw [h1.ok, decide_eq_true h2.1, decide_eq_true h2.2.1, decide_eq_false h2.2.2]
  rfl
theorem cut_drop_list (xs : List V) (n : Nat) : cutV xs (some (n : Int)) none = xs.drop n := by
  unfold cutV
  rw [HT.sIx_nat, HT.sIx_none]
  by_cases h : n ≤ xs.length
  · rw [Nat.min_eq_left h]
    exact List.take_of_length_le (by rw [List.length_drop]; exact Nat.le_refl _)
  · rw [Nat.min_eq_right (by omega), List.drop_length, List.drop_eq_nil_of_le (by omega)]
    simp
theorem drawn_ok {zs ms las : List Str} {sw : Nat} {rs ls : List Sp3} {cs : List Ct} (zn : ∀ z ∈ zs, Nm z) (zd : zs.Nodup) (z2 : 2 ≤ zs.length) (z16 : zs.length ≤ 16) (mn : ∀ z ∈ ms, Nm z) (md : ms.Nodup) (s6 : sw ≤ 6) (hsw : sw ≤ ms.length) (r8 : ms.length - sw ≤ 8) (ln : ∀ z ∈ las, Nm z) (ld : las.Nodup) (l1 : 1 ≤ las.length) (l8 : las.length ≤ 8)
    (hrs : rs.map (·.nm) = ms.drop sw) (hls : ls.map (·.nm) = las) (okR : ∀ r ∈ rs, LoadOk zs r) (okL : ∀ r ∈ ls, LoadOk zs r) (c40 : cs.length ≤ 40) (okC : ∀ c ∈ cs, ctB zs ms c = true) : (⟨zs, ms.take sw, rs, ls, cs⟩ : Bd).Ok ∧ Few ⟨zs, ms.take sw, rs, ls, cs⟩ := by
  have lrs : rs.length = ms.length - sw := by
    have := congrArg List.length hrs
    rw [List.length_map, List.length_drop] at this
    exact this
  have lls : ls.length = las.length := by
    have := congrArg List.length hls
    rw [List.length_map] at this
    exact this
  have emv : (⟨zs, ms.take sw, rs, ls, cs⟩ : Bd).movers = ms := by
    show ms.take sw ++ rs.map (·.nm) = _
    rw [hrs, List.take_append_drop]
  refine ⟨⟨?_, ?_, ?_, ?_, ?_, ?_, ?_, c40, ?_⟩, ⟨?_, ?_, ?_, ?_, ?_, ?_, ?_, ?_, ?_⟩⟩
  · exact areNm_mk zn zd z2 z16
  · show (ms.take sw).length ≤ 6
    rw [List.length_take]
    omega
  · show rs.length ≤ 8
    omega
  · rw [emv]
    exact areNm_mk mn md (Nat.zero_le _) (Nat.le_refl _)
  · show areNm (ls.map (·.nm)) 1 8 = true
    rw [hls]
    exact areNm_mk ln ld l1 l8
  · intro r hr'
    refine spanB_mk (mn _ (List.mem_of_mem_drop (i := sw) ?_)) (okR r hr')
    rw [← hrs]
    exact List.mem_map.mpr ⟨r, hr', rfl⟩
  · intro r hr'
    refine spanB_mk (ln _ ?_) (okL r hr')
    rw [← hls]
    exact List.mem_map.mpr ⟨r, hr', rfl⟩
  · rw [emv]
    exact okC
  · show zs.length ≤ 1000
    omega
  · show (ms.take sw).length ≤ 1000
    rw [List.length_take]
    omega
  · show rs.length ≤ 1000
    omega
  · show ls.length ≤ 1000
    omega
  · show cs.length ≤ 1000
    omega
  · exact fun z hz => by have := (zn z hz).2.1; omega
  · exact fun z hz => by have := (mn z (List.mem_of_mem_take hz)).2.1; omega
  · intro r hr'
    have := (mn r.nm (List.mem_of_mem_drop (i := sw) (by rw [← hrs]; exact List.mem_map.mpr ⟨r, hr', rfl⟩))).2.1
    omega
  · intro r hr'
    have := (ln r.nm (by rw [← hls]; exact List.mem_map.mpr ⟨r, hr', rfl⟩)).2.1
    omega
theorem at5 {x0 x1 x2 x3 x4 : V} : atI [x0, x1, x2, x3, x4] 0 = some x0 ∧ atI [x0, x1, x2, x3, x4] 1 = some x1 ∧ atI [x0, x1, x2, x3, x4] 2 = some x2 ∧ atI [x0, x1, x2, x3, x4] 3 = some x3 ∧ atI [x0, x1, x2, x3, x4] 4 = some x4 := ⟨rfl, rfl, rfl, rfl, rfl⟩
theorem ok_board {f fM fL fC : Addr} {fd fdM fdL fdC : FuncData} {k : Nat} (F : Fun K "_law_board" "_law_board" sLawBoard f fd)
    (FM : Fun K "_law_names" "_law_names" sLawNames fM fdM) (bM : Binds K fdM ["number", "other", "many"] []) (gM : mg "_law_names" = some (.ref fM))
    (FL : Fun K "_law_loads" "_law_loads" sLawLoads fL fdL) (bL : Binds K fdL ["numbers", "at", "many", "names", "nodes"] []) (gL : mg "_law_loads" = some (.ref fL))
    (FC : Fun K "_law_contact" "_law_contact" sLawContact fC fdC) (bC : Binds K fdC ["numbers", "at", "nodes", "movers"] []) (gC : mg "_law_contact" = some (.ref fC))
    (mi : mg "int" = none) (mr : mg "range" = none) (ml : mg "len" = none) : FnOk P w K mg base CX0 (k + 2) f fd ["numbers", "big"] (spBoard K) := by
  have GM : FnOk P w K mg base CX0 (k + 1) fM fdM ["number", "other", "many"] (spNames K) := ok_names FM mi mr
  have GL : FnOk P w K mg base CX0 (k + 1) fL fdL ["numbers", "at", "many", "names", "nodes"] (spLoads K) := ok_loads FL mi ml mr
  have GC : FnOk P w K mg base CX0 (k + 1) fC fdC ["numbers", "at", "nodes", "movers"] (spContact K) := ok_contact FC mi ml
  refine F.ok scBoard (fun vs H Q E h => ?_) (fun cdv A outer s H vs Q E hr h => ?_)
  · obtain ⟨a, ns, big, rfl, _⟩ := h
    rfl
  · obtain ⟨a, ns, big, rfl, hS, hn, hl, q⟩ := h
    refine ⟨_, pss_cons (ps_set (i := 2) scBoard.nd rfl (.inl rfl) (pe_lst (pa_cons (pe_op op_add pe_int (pe_op op_modW (pe_callTy call_int1 (by rfl) mi (by decide +kernel) (pa_cons (pe_ix ix_list (pv 0) pe_int (fun _ _ => rfl)) pa_nil)) pe_int)) (pa_cons (pe_op op_modW (pe_callTy call_int1 (by rfl) mi (by decide +kernel) (pa_cons (pe_ix ix_list (pv 0) pe_int (fun _ _ => rfl)) pa_nil)) pe_int) (pa_cons (pe_op op_modW (pe_callTy call_int1 (by rfl) mi (by decide +kernel) (pa_cons (pe_ix ix_list (pv 0) pe_int (fun _ _ => rfl)) pa_nil)) pe_int) (pa_cons (pe_op op_add pe_int (pe_op op_modW (pe_callTy call_int1 (by rfl) mi (by decide +kernel) (pa_cons (pe_ix ix_list (pv 0) pe_int (fun _ _ => rfl)) pa_nil)) pe_int)) (pa_cons (pe_op op_modW (pe_callTy call_int1 (by rfl) mi (by decide +kernel) (pa_cons (pe_ix ix_list (pv 0) pe_int (fun _ _ => rfl)) pa_nil)) pe_int) pa_nil)))))))
      (C8.pss_cut (ps_if (PW.pt (pw_and (pt_val (pv 1)) (pw_and1 (pt_cmpR op_eq (pe_op op_modW (pe_callTy call_int1 (by rfl) mi (by decide +kernel) (pa_cons (pe_ix ix_list (pv 0) pe_int (fun _ _ => rfl)) pa_nil)) pe_int) pe_int (nomark _)))))
        (pss_cons (ps_set (i := 2) scBoard.nd rfl (.inl rfl) (pe_lst (pa_cons (pe_op op_add pe_int (pe_op op_modW (pe_callTy call_int1 (by rfl) mi (by decide +kernel) (pa_cons (pe_ix ix_list (pv 0) pe_int (fun _ _ => rfl)) pa_nil)) pe_int)) (pa_cons (pe_op op_modW (pe_callTy call_int1 (by rfl) mi (by decide +kernel) (pa_cons (pe_ix ix_list (pv 0) pe_int (fun _ _ => rfl)) pa_nil)) pe_int) (pa_cons (pe_op op_modW (pe_callTy call_int1 (by rfl) mi (by decide +kernel) (pa_cons (pe_ix ix_list (pv 0) pe_int (fun _ _ => rfl)) pa_nil)) pe_int) (pa_cons (pe_op op_add pe_int (pe_op op_modW (pe_callTy call_int1 (by rfl) mi (by decide +kernel) (pa_cons (pe_ix ix_list (pv 0) pe_int (fun _ _ => rfl)) pa_nil)) pe_int)) pa_nil))))))
        (pss_one (ps_expr (pe_bm PySem.F.plainAttrs_list PySem.F.slot_list_append PySem.F.type_list_append mt_append (pv 2) (pa_cons (pe_op op_modW (pe_callTy call_int1 (by rfl) mi (by decide +kernel) (pa_cons (pe_ix ix_list (pv 0) pe_int (fun _ _ => rfl)) pa_nil)) pe_int) pa_nil))))) pss_nil)
      (pss_cons (ps_set (i := 3) scBoard.nd rfl (.inr rfl) (pe_call GM hr (by rfl) gM FM.kp bM .nil pass0 (pa_cons (pe_ix ix_list (pv 0) pe_int (fun _ _ => rfl)) (pa_cons (pe_ix ix_list (pv 0) pe_int (fun _ _ => rfl)) (pa_cons (pe_ix ix_list (pv 2) pe_int (fun _ _ => rfl)) pa_nil)))))
      (pss_cons (ps_set (i := 4) scBoard.nd rfl (.inr rfl) (pe_call GM hr (by rfl) gM FM.kp bM .nil pass0 (pa_cons (pe_ix ix_list (pv 0) pe_int (fun _ _ => rfl)) (pa_cons (pe_ix ix_list (pv 0) pe_int (fun _ _ => rfl)) (pa_cons (pe_op op_add (pe_ix ix_list (pv 2) pe_int (fun _ _ => rfl)) (pe_ix ix_list (pv 2) pe_int (fun _ _ => rfl))) pa_nil)))))
      (pss_cons (ps_set (i := 5) scBoard.nd rfl (.inl rfl) (pe_call GM hr (by rfl) gM FM.kp bM .nil pass0 (pa_cons (pe_ix ix_list (pv 0) pe_int (fun _ _ => rfl)) (pa_cons (pe_ix ix_list (pv 0) pe_int (fun _ _ => rfl)) (pa_cons (pe_ix ix_list (pv 2) pe_int (fun _ _ => rfl)) pa_nil)))))
      (pss_cons (ps_set (i := 6) scBoard.nd rfl (.inl rfl) (pe_slice sl_list (pv 4) po_none (po_some (pe_ix ix_list (pv 2) pe_int (fun _ _ => rfl)))))
      (pss_cons (ps_set (i := 7) scBoard.nd rfl (.inl rfl) (pe_call GL hr (by rfl) gL FL.kp bL .nil pass0 (pa_cons (pv 0) (pa_cons pe_int (pa_cons (pe_ix ix_list (pv 2) pe_int (fun _ _ => rfl)) (pa_cons (pe_slice sl_list (pv 4) (po_some (pe_ix ix_list (pv 2) pe_int (fun _ _ => rfl))) po_none) (pa_cons (pv 3) pa_nil)))))))
      (pss_cons (ps_setLc (i := 8) (own := [("k", 9)]) (g := gName 9) (tt := tYes) rfl scBoard.nd rfl rfl (sw_true rfl rfl rfl (by decide +kernel)) (pi_range1 rfl mr (pa_cons (pe_ix ix_list (pv 2) pe_int (fun _ _ => rfl)) pa_nil)) (blkOk_by (N := ["numbers", "big", "sizes", "nodes", "movers", "lamps", "switches", "relays", "contacts", "k"]) (sc := defScope sLawBoard) (by decide +kernel)) (fun _ _ _ _ _ => pg_name (i := 9) scBoard.nd rfl (Or.inl rfl)) (fun _ _ _ _ _ => pts_nil)
          (fun _ _ _ _ _ => pe_call GC hr (by rfl) gC FC.kp bC .nil pass0 (pa_cons (pv 0) (pa_cons (pe_op op_add pe_int (pe_op op_mul pe_int (pv 9))) (pa_cons (pv 3) (pa_cons (pv 4) pa_nil))))))
      (pss_one (ps_ret (pe_lst (pa_cons (pv 3) (pa_cons (pv 6) (pa_cons (pv 7) (pa_cons (pe_call GL hr (by rfl) gL FL.kp bL .nil pass0 (pa_cons (pv 0) (pa_cons pe_int (pa_cons (pe_ix ix_list (pv 2) pe_int (fun _ _ => rfl)) (pa_cons (pv 5) (pa_cons (pv 3) pa_nil)))))) (pa_cons (pv 8) pa_nil))))))))))))))), ?_⟩
    obtain ⟨_, _, g0⟩ := at_get hn (show 0 < ns.length by omega)
    obtain ⟨_, _, g1⟩ := at_get hn (show 1 < ns.length by omega)
    obtain ⟨_, _, g2⟩ := at_get hn (show 2 < ns.length by omega)
    obtain ⟨_, _, g3⟩ := at_get hn (show 3 < ns.length by omega)
    obtain ⟨_, _, g4⟩ := at_get hn (show 4 < ns.length by omega)
    obtain ⟨_, _, g5⟩ := at_get hn (show 5 < ns.length by omega)
    obtain ⟨a6, b6, g6⟩ := at_get hn (show 6 < ns.length by omega)
    obtain ⟨a7, b7, g7⟩ := at_get hn (show 7 < ns.length by omega)
    obtain ⟨a8, b8, g8⟩ := at_get hn (show 8 < ns.length by omega)
    obtain ⟨a9, b9, g9⟩ := at_get hn (show 9 < ns.length by omega)
    obtain ⟨a10, b10, g10⟩ := at_get hn (show 10 < ns.length by omega)
    obtain ⟨a11, b11, g11⟩ := at_get hn (show 11 < ns.length by omega)
    refine ⟨_, rfl, a, _, _, _, rfl, rfl, hS, g0 _ rfl, .inl ⟨_, rfl, ?_⟩⟩
    refine modE (by decide) fun r0 _ h0 => ?_
    refine ⟨_, _, rfl, rfl, _, rfl, a, _, _, _, rfl, rfl, hS, g1 _ rfl, .inl ⟨_, rfl, ?_⟩⟩
    refine modE (by decide) fun r1 _ h1 => ?_
    refine ⟨_, rfl, a, _, _, _, rfl, rfl, hS, g2 _ rfl, .inl ⟨_, rfl, ?_⟩⟩
    refine modE (by decide) fun r2 _ h2 => ?_
    refine ⟨_, rfl, a, _, _, _, rfl, rfl, hS, g3 _ rfl, .inl ⟨_, rfl, ?_⟩⟩
    refine modE (by decide) fun r3 _ h3 => ?_
    refine ⟨_, _, rfl, rfl, _, rfl, a, _, _, _, rfl, rfl, hS, g4 _ rfl, .inl ⟨_, rfl, ?_⟩⟩
    refine modE (by decide) fun r4 _ h4 => ?_
    refine ⟨by show 5 ≤ sizeLine; decide, fun o0 n0 => ?_⟩
    have z1 := same_upd (o := .lst [.int (2 + (r0 : Int)), .int r1, .int r2, .int (1 + (r3 : Int)), .int r4]) n0
    refine ⟨fun σ G => ∃ (os : Addr) (s0 s1 s2 s3 s4 : Nat), σ = [some (.ref a), some (.bl big), some (.ref os), none, none, none, none, none, none, none] ∧ Same H G ∧ G os = some (.lst [.int s0, .int s1, .int s2, .int s3, .int s4]) ∧ 2 ≤ s0 ∧ s0 ≤ 16 ∧ s1 ≤ 6 ∧ s2 ≤ 8 ∧ 1 ≤ s3 ∧ s3 ≤ 8 ∧ s4 ≤ 40, ?_, ?_⟩
    · have stay : ∃ (os : Addr) (s0 s1 s2 s3 s4 : Nat), [some (V.ref a), some (.bl big), some (.ref o0), none, none, none, none, none, none, none] = [some (V.ref a), some (.bl big), some (.ref os), none, none, none, none, none, none, none] ∧ Same H (upd H o0 (.lst [.int (2 + (r0 : Int)), .int r1, .int r2, .int (1 + (r3 : Int)), .int r4])) ∧ (upd H o0 (.lst [.int (2 + (r0 : Int)), .int r1, .int r2, .int (1 + (r3 : Int)), .int r4])) os = some (.lst [.int s0, .int s1, .int s2, .int s3, .int s4]) ∧ 2 ≤ s0 ∧ s0 ≤ 16 ∧ s1 ≤ 6 ∧ s2 ≤ 8 ∧ 1 ≤ s3 ∧ s3 ≤ 8 ∧ s4 ≤ 40 :=
        ⟨o0, 2 + r0, r1, r2, 1 + r3, r4, rfl, z1, by rw [upd_same, show ((2 + r0 : Nat) : Int) = 2 + (r0 : Int) by omega, show ((1 + r3 : Nat) : Int) = 1 + (r3 : Int) by omega], by omega, by omega, by omega, by omega, by omega, by omega, by omega⟩
      refine ⟨_, rfl, _, rfl, ?_⟩
      refine ite2 (fun _ => ?_) (fun _ => stay)
      have hS1 := z1.seq hS
      refine ⟨_, rfl, a, _, _, _, rfl, rfl, hS1, g5 _ rfl, .inl ⟨_, rfl, ?_⟩⟩
      refine modE (by decide) fun r5 _ h5 => ?_
      refine ⟨rfl, _, rfl, ?_⟩
      refine ite2 (fun _ => ?_) (fun _ => stay)
      refine ⟨_, rfl, a, _, _, _, rfl, rfl, hS1, g0 _ rfl, .inl ⟨_, rfl, ?_⟩⟩
      refine modE (by decide) fun p0 _ k0 => ?_
      refine ⟨_, _, rfl, rfl, _, rfl, a, _, _, _, rfl, rfl, hS1, g1 _ rfl, .inl ⟨_, rfl, ?_⟩⟩
      refine modE (by decide) fun p1 _ k1 => ?_
      refine ⟨_, rfl, a, _, _, _, rfl, rfl, hS1, g2 _ rfl, .inl ⟨_, rfl, ?_⟩⟩
      refine modE (by decide) fun p2 _ k2 => ?_
      refine ⟨_, rfl, a, _, _, _, rfl, rfl, hS1, g3 _ rfl, .inl ⟨_, rfl, ?_⟩⟩
      refine modE (by decide) fun p3 _ k3 => ?_
      refine ⟨_, _, rfl, rfl, by show 4 ≤ sizeLine; decide, fun o1 n1 => ?_⟩
      have z2 := same_upd (o := .lst [.int (2 + (p0 : Int)), .int p1, .int p2, .int (1 + (p3 : Int))]) n1
      refine ⟨_, rfl, .inl ⟨rfl, _, sq upd_same⟩, _, rfl, a, _, _, _, rfl, rfl, z2.seq hS1, g4 _ rfl, .inl ⟨_, rfl, ?_⟩⟩
      refine modE (by decide) fun p4 _ k4 => ?_
      refine ⟨o1, _, _, rfl, rfl, upd_same, szlt (by show 4 ≤ 1000000; decide), ?_⟩
      refine ⟨o1, 2 + p0, p1, p2, 1 + p3, p4, rfl, same_mut (z1.trans z2) (z1.free n1), ?_, by omega, by omega, by omega, by omega, by omega, by omega, by omega⟩
      rw [upd_same, show ((2 + p0 : Nat) : Int) = 2 + (p0 : Int) by omega, show ((1 + p3 : Nat) : Int) = 1 + (p3 : Int) by omega]
      rfl
    rintro σ G ⟨os, t0, t1, t2, t3, t4, rfl, zg, hos, l0, u0, u1, u2, l3, u3, u4⟩
    obtain ⟨e0, e1, e2, e3, e4⟩ := at5 (x0 := .int t0) (x1 := .int t1) (x2 := .int t2) (x3 := .int t3) (x4 := .int t4)
    have hSg := zg.seq hS
    -- nodes
    refine ⟨_, rfl, a, _, _, _, rfl, rfl, hSg, g6 _ rfl, _, rfl, a, _, _, _, rfl, rfl, hSg, g7 _ rfl, _, rfl, os, _, _, _, rfl, rfl, sq hos, e0, getI ns 6, getI ns 7, t0, rfl, ⟨a6, b6⟩, ⟨a7, b7⟩, by omega, fun G1 on zs s1 nn hon zl zn zd => ?_⟩
    have hS1 := s1.seq hSg
    have hos1 := s1 _ _ hos
    -- movers
    refine ⟨_, rfl, a, _, _, _, rfl, rfl, hS1, g8 _ rfl, _, rfl, a, _, _, _, rfl, rfl, hS1, g9 _ rfl, _, rfl, os, _, _, _, rfl, rfl, sq hos1, e1, _, rfl, os, _, _, _, rfl, rfl, sq hos1, e2, _, _, rfl, rfl, getI ns 8, getI ns 9, t1 + t2, by rw [Int.natCast_add]; rfl, ⟨a8, b8⟩, ⟨a9, b9⟩, by omega, fun G2 om ms s2 nm hom mL mn md => ?_⟩
    have hS2 := s2.seq hS1
    have hos2 := s2 _ _ hos1
    have hon2 := s2 _ _ hon
    -- lamps
    refine ⟨_, rfl, a, _, _, _, rfl, rfl, hS2, g10 _ rfl, _, rfl, a, _, _, _, rfl, rfl, hS2, g11 _ rfl, _, rfl, os, _, _, _, rfl, rfl, sq hos2, e3, getI ns 10, getI ns 11, t3, rfl, ⟨a10, b10⟩, ⟨a11, b11⟩, by omega, fun G3 ol las s3 nl hol lL lan lad => ?_⟩
    have hS3 := s3.seq hS2
    have hos3 := s3 _ _ hos2
    have hon3 := s3 _ _ hon2
    have hom3 := s3 _ _ hom
    -- switches
    refine ⟨_, rfl, _, rfl, os, _, _, _, rfl, rfl, sq hos3, e1, _, rfl, om, _, rfl, sq hom3, fun o6 n6 => ?_⟩
    rw [cut_list, ← List.map_take]
    have s4 := same_upd (o := .lst ((ms.take t1).map V.str)) n6
    have ho6 := upd_same (H := G3) (a := o6) (o := .lst ((ms.take t1).map V.str))
    generalize upd G3 o6 (.lst ((ms.take t1).map V.str)) = G4 at *
    have hS4 := s4.seq hS3
    have hos4 := s4 _ _ hos3
    have hon4 := s4 _ _ hon3
    have hom4 := s4 _ _ hom3
    have hol4 := s4 _ _ hol
    -- relays
    refine ⟨_, rfl, _, rfl, os, _, _, _, rfl, rfl, sq hos4, e2, _, rfl, _, rfl, os, _, _, _, rfl, rfl, sq hos4, e1, _, rfl, om, _, rfl, sq hom4, fun o7 n7 => ?_⟩
    rw [cut_drop_list, ← List.map_drop]
    have s5 := same_upd (o := .lst ((ms.drop t1).map V.str)) n7
    have ld : (ms.drop t1).length = t2 := by rw [List.length_drop]; omega
    refine ⟨_, rfl, a, o7, on, ns, 12, ms.drop t1, zs, by rw [ld]; rfl, s5.seq hS4, hn, by rw [ld]; omega, sq upd_same, by omega, sq (s5 _ _ hon4), by omega, by omega, zd, fun G6 orl xr rs s6 n8 hrl hR hnmR hokR => ?_⟩
    have s56 := s5.trans s6
    have hS6 := s56.seq hS4
    have hos6 := s56 _ _ hos4
    have hon6 := s56 _ _ hon4
    have hom6 := s56 _ _ hom4
    have hol6 := s56 _ _ hol4
    have ho66 := s56 _ _ ho6
    have zg6 := ((((zg.trans s1).trans s2).trans s3).trans s4).trans s56
    -- contacts
    refine ⟨_, rfl, os, _, _, _, rfl, rfl, sq hos6, e4, (t4 : Int), rfl, by omega, by omega, fun D nD => ?_⟩
    refine lc_range (lo := 0) (n := (t4 : Int).toNat) (fun i G => ∃ (xc : List V) (cs : List Ct), Same G6 G ∧ G D = some (.lst xc) ∧ Rows K G xc (cs.map Ct.row) ∧ cs.length = i ∧ ∀ c ∈ cs, ctB zs ms c = true) ⟨[], [], same_upd nD, upd_same, True.intro, rfl, fun c hc => by cases hc⟩ ?_ ?_
    · rintro i G7 hi ⟨xc, cs, sm, hd, hC, hcl, hok⟩
      have hi2 : i < t4 := by omega
      refine ⟨rfl, ?_⟩
      refine yesT ?_
      refine ⟨_, rfl, _, rfl, _, _, rfl, rfl, .inl ⟨by decide, by decide⟩, _, _, rfl, rfl, _, rfl, _, rfl, a, on, om, ns, 50 + 4 * i, zs, ms, ?_, sm.seq hS6, hn, by omega, sq (sm _ _ hon6), by omega, by omega, zd, sq (sm _ _ hom6), by omega, fun G8 t c s8 nt ht hct => ?_⟩
      · have e : (50 : Int) + 4 * (0 + (i : Int)) = ((50 + 4 * i : Nat) : Int) := by omega
        show [V.ref a, V.int (50 + 4 * (0 + (i : Int))), V.ref on, V.ref om] = _
        rw [e]
      · have hd8 := s8 _ _ hd
        have lc := hC.len
        rw [List.length_map] at lc
        have not : D ≠ t := ne_of_none hd nt
        refine ⟨_, hd8, szlt (by omega), xc ++ [.ref t], cs ++ [c], same_mut (sm.trans s8) nD, upd_same, ?_, by rw [List.length_append, hcl]; rfl, fun d hd => ?_⟩
        · rw [List.map_append]
          refine Rows.snoc ?_ (Rows.updl hd8 (hC.mono s8))
          exact .inl (.inl (by rw [upd_ne not.symm]; exact ht))
        · rcases List.mem_append.mp hd with h | h
          · exact hok d h
          · rw [List.mem_singleton.mp h]
            exact hct
    rintro G7 ⟨xc, cs, s7, hD, hC, hcl, hokC⟩
    have hS7 := s7.seq hS6
    have hos7 := s7 _ _ hos6
    refine ⟨_, rfl, _, rfl, _, rfl, _, rfl, _, rfl, os, _, _, _, rfl, rfl, sq hos7, e3, _, rfl, _, rfl, a, ol, on, ns, 30, las, zs, by rw [lL]; rfl, hS7, hn, by omega, sq (s7 _ _ hol6), by omega, sq (s7 _ _ hon6), by omega, by omega, zd, fun G8 oll xl ls s8 n9 hll hL hnmL hokL => ?_⟩
    refine ⟨_, rfl, by show 5 ≤ sizeLine; decide, fun p np => ?_⟩
    have s9 := same_upd (o := .lst [.ref on, .ref o6, .ref orl, .ref oll, .ref D]) np
    have s79 := (s7.trans s8).trans s9
    have s89 := s8.trans s9
    obtain ⟨bok, bfew⟩ := drawn_ok (rs := rs) (ls := ls) (cs := cs) zn zd (by omega) (by omega) mn md u1 (by omega) (by omega) lan lad (by omega) (by omega) hnmR hnmL hokR hokL (by omega) hokC
    exact q _ p ⟨zs, ms.take t1, rs, ls, cs⟩ (zg6.trans s79) ((zg6.trans (s7.trans s8)).free np) ⟨on, o6, orl, oll, D, xr, xl, xc, upd_same, s79 _ _ hon6, s79 _ _ ho66, s79 _ _ hrl, s9 _ _ hll, s89 _ _ hD, hR.mono s79, hL.mono s9, hC.mono s89⟩ bok bfew
/-! ### _law_made, _law_movers -/
def gInit {α : Type} : List α → List α → List α
  | [x], [n, s, r, l, c] => [x, n, l, s, r, c]
  | us, _ => us
theorem kb_init {f : Addr} {fd : FuncData} (F : Fun K "__init__" "Board.__init__" sBoardInit f fd) : KBn K fd ["self", "nodes", "lamps", "switches", "relays", "contacts"] 1 ["nodes", "switches", "relays", "lamps", "contacts"] gInit gInit := by
  obtain ⟨oc, od, kV, doc, pm, an, cdv, ct, osl, rfl, lk, hcd⟩ := F.ex
  refine ⟨fun s us ws _ h1 h2 => ?_, fun {vs us zs ws} h1 h2 => ?_⟩
  · match us, h1, ws, h2 with
    | [_], _, [_, _, _, _, _], _ => exact .of_eq rfl
  · cases h1 with
    | nil => exact .nil
    | cons a1 r1 =>
      cases r1 with
      | cons a2 r2 => exact .cons a1 (.cons a2 r2)
      | nil =>
        cases h2 with
        | nil => exact .cons a1 .nil
        | cons b1 q1 =>
          cases q1 with
          | nil => exact .cons a1 .nil
          | cons b2 q2 =>
            cases q2 with
            | nil => exact .cons a1 .nil
            | cons b3 q3 =>
              cases q3 with
              | nil => exact .cons a1 .nil
              | cons b4 q4 =>
                cases q4 with
                | nil => exact .cons a1 .nil
                | cons b5 q5 =>
                  cases q5 with
                  | nil => exact .cons a1 (.cons b1 (.cons b4 (.cons b2 (.cons b3 (.cons b5 .nil)))))
                  | cons _ _ => exact .cons a1 .nil

def spMade (K : PySem.W.Frag) (C : Addr) : Sp := fun vs H Q _ => ∃ (p : Addr) (b : Bd), vs = [.ref p] ∧ SpecAt K H p b ∧ Few b ∧ b.Ok ∧ ∀ H' q, Same H H' → H q = none → BoardAt K C H' q b → Q (.ref q) H'
theorem scMade : FnScope ["spec", "nodes", "switches", "relays", "lamps", "contacts"] ["spec"] (defScope sLawMade) := ⟨rfl, rfl, rfl, by decide +kernel, rfl, by decide +kernel, by decide +kernel⟩
theorem ok_made {f fI C : Addr} {fd fdI : FuncData} {k : Nat} (F : Fun K "_law_made" "_law_made" sLawMade f fd) (M : Mk K C fI) (FI : Fun K "__init__" "Board.__init__" sBoardInit fI fdI) (mgB : mg "Board" = some (.ref C)) (ml : mg "list" = none)
    (GI : FnOk P w K mg base CX0 (k + 4) fI fdI ["self", "nodes", "lamps", "switches", "relays", "contacts"] (spInit K C)) : FnOk P w K mg base CX0 (k + 6) f fd ["spec"] (spMade K C) := by
  have KB := kb_init FI
  refine F.ok scMade (fun vs H Q E h => ?_) (fun cdv A outer s H vs Q E hr h => ?_)
  · obtain ⟨p, b, rfl, _⟩ := h
    rfl
  · obtain ⟨p, b, rfl, hp, few, ok, q⟩ := h
    obtain ⟨n, sw, r, l, c, xr, xl, xc, h0, h1, h2, h3, h4, h5, h6, h7, h8⟩ := hp
    refine ⟨_, pss_cons (ps_asg (pv 0) (pg_lst rfl (pgs_cons (pg_name (i := 1) scMade.nd rfl (Or.inl rfl)) (pgs_cons (pg_name (i := 2) scMade.nd rfl (Or.inl rfl)) (pgs_cons (pg_name (i := 3) scMade.nd rfl (Or.inl rfl)) (pgs_cons (pg_name (i := 4) scMade.nd rfl (Or.inl rfl)) (pgs_cons (pg_name (i := 5) scMade.nd rfl (Or.inl rfl)) pgs_nil)))))))
      (pss_one (ps_ret (pe_makeK0 M GI hr rfl mgB KB pass0
      (pk_cons (pe_callTy call_list_of (by rfl) ml (by decide +kernel) (pa_cons (pv 1) pa_nil))
      (pk_cons (pe_callTy call_list_of (by rfl) ml (by decide +kernel) (pa_cons (pv 2) pa_nil))
      (pk_cons (pe_callTy call_list_of (by rfl) ml (by decide +kernel) (pa_cons (pv 3) pa_nil))
      (pk_cons (pe_callTy call_list_of (by rfl) ml (by decide +kernel) (pa_cons (pv 4) pa_nil))
      (pk_cons (pe_callTy call_list_of (by rfl) ml (by decide +kernel) (pa_cons (pv 5) pa_nil)) pk_nil)))))))), ?_⟩
    refine ⟨_, rfl, p, _, rfl, sq h0, rfl, _, _, rfl, _, _, rfl, _, _, rfl, _, _, rfl, _, _, rfl, rfl, ?_⟩
    refine ⟨_, rfl, n, _, rfl, .inl (sq h1), fun o1 n1 => ?_⟩
    have s1 := same_upd (o := .lst (b.nodes.map V.str)) n1
    refine ⟨_, rfl, sw, _, rfl, .inl (sq (s1 _ _ h2)), fun o2 n2 => ?_⟩
    have s2 := s1.trans (same_upd (o := .lst (b.switches.map V.str)) n2)
    refine ⟨_, rfl, r, _, rfl, .inl (sq (s2 _ _ h3)), fun o3 n3 => ?_⟩
    have s3 := s2.trans (same_upd (o := .lst xr) n3)
    refine ⟨_, rfl, l, _, rfl, .inl (sq (s3 _ _ h4)), fun o4 n4 => ?_⟩
    have s4 := s3.trans (same_upd (o := .lst xl) n4)
    refine ⟨_, rfl, c, _, rfl, .inl (sq (s4 _ _ h5)), fun o5 n5 => ?_⟩
    have s5 := s4.trans (same_upd (o := .lst xc) n5)
    refine ⟨rfl, rfl, fun x dx nx ndx nex => ?_⟩
    have t5 := same_upd (o := .lst xc) n5
    have t4 := (same_upd (o := .lst xl) n4).trans t5
    have t3 := (same_upd (o := .lst xr) n3).trans t4
    have t2 := (same_upd (o := .lst (b.switches.map V.str)) n2).trans t3
    have gv : Given K _ b o1 o4 o2 o3 o5 := ⟨.inl (sq (t2 _ _ upd_same)), .inl (sq (t3 _ _ upd_same)), ⟨xl, .inl (sq (t5 _ _ upd_same)), RowsA.of (h7.mono s5)⟩, ⟨xr, .inl (sq (t4 _ _ upd_same)), RowsA.of (h6.mono s5)⟩, ⟨xc, .inl (sq upd_same), RowsA.of (h8.mono s5)⟩⟩
    refine ⟨x, dx, _, o1, o4, o2, o3, o5, b, rfl, upd_same, nx, same_mut (same_upd ndx) nx, gv, few, ok, fun H' s' hB => ⟨rfl, ?_⟩⟩
    exact q H' x (s5.trans s') (s5.free nx) hB
def spMoversL (K : PySem.W.Frag) : Sp := fun vs H Q _ => ∃ (p : Addr) (b : Bd), vs = [.ref p] ∧ SpecAt K H p b ∧ Few b ∧ ∀ H' o, Same H H' → H o = none → H' o = some (.lst (b.movers.map V.str)) → Q (.ref o) H'
theorem scMoversL : FnScope ["spec", "relay"] ["spec"] (defScope sLawMovers) := ⟨rfl, rfl, rfl, by decide +kernel, rfl, by decide +kernel, by decide +kernel⟩
theorem ok_moversL {f : Addr} {fd : FuncData} {k : Nat} (F : Fun K "_law_movers" "_law_movers" sLawMovers f fd) : FnOk P w K mg base CX0 (k + 1) f fd ["spec"] (spMoversL K) := by
  refine F.ok scMoversL (fun vs H Q E h => ?_) (fun cdv A outer s H vs Q E hr h => ?_)
  · obtain ⟨p, b, rfl, _⟩ := h
    rfl
  · obtain ⟨p, b, rfl, hp, few, q⟩ := h
    obtain ⟨n, sw, r, l, c, xr, xl, xc, h0, h1, h2, h3, h4, h5, h6, h7, h8⟩ := hp
    refine ⟨_, pss_one (ps_ret (pe_op op_cat (pe_ix ix_list (pv 0) pe_int (fun _ _ => rfl))
          (pe_lc (own := [("relay", 1)]) (g := gName 1) (tt := tYes) rfl scMoversL.nd (pi_list (pe_ix ix_list (pv 0) pe_int (fun _ _ => rfl))) (blkOk_by (N := ["spec", "relay"]) (sc := defScope sLawMovers) (by decide +kernel)) (fun _ _ _ _ _ => pg_name (i := 1) scMoversL.nd rfl (Or.inl rfl)) (fun _ _ _ _ _ => pts_nil)
            (te := tOp (rIxT K) (tVar 1) (tC (.int 0))) (fun _ _ _ _ _ => pe_ix ix_tup (pv 1) pe_int (fun _ _ => rfl))))), ?_⟩
    refine ⟨_, rfl, p, _, 1, _, rfl, rfl, sq h0, rfl, _, rfl, p, _, 2, _, rfl, rfl, sq h0, rfl, r, rfl, ⟨_, sq h3⟩, fun D1 nD => ?_⟩
    have lr := h6.len
    rw [List.length_map] at lr
    refine lc_list (K := K) (a := r) (xs := xr) (fun i G => Same H G ∧ G D1 = some (.lst (((b.relays.map (·.nm)).take i).map V.str))) ⟨same_upd nD, upd_same⟩ (fun i G _ h => sq (h.1 _ _ h3)) ?_ ?_
    · rintro i v G hi ⟨sm, hd⟩
      obtain ⟨tt, rw_, rfl, hrow, hri⟩ := h6.at hi
      rw [List.getElem?_map] at hri
      obtain ⟨y, hy, rfl⟩ := Option.map_eq_some_iff.mp hri
      refine ⟨rfl, ?_⟩
      refine yesT ?_
      refine ⟨_, rfl, tt, _, 0, _, rfl, rfl, Same.sqt sm hrow, rfl, _, hd, ?_, same_mut sm nD, ?_⟩
      · rw [List.length_map, List.length_take]
        have := few.r
        exact szlt (by rw [List.length_map]; omega)
      · rw [upd_same, ← map_snoc, List.take_add_one, List.getElem?_map, hy]
        rfl
    rintro H3 ⟨s3, hD⟩
    rw [lr, ← List.length_map (f := fun r : Sp3 => r.nm), List.take_length] at hD
    refine ⟨sw, D1, _, _, rfl, rfl, s3 _ _ h2, hD, szl (by rw [List.length_map, List.length_map, List.length_map]; have := few.s; have := few.r; omega), fun om nom => ?_⟩
    refine q _ om (s3.trans (same_upd nom)) (s3.free nom) ?_
    rw [upd_same, ← List.map_append]
    rfl
/-! ### _law_closed -/
def rIxA (K : PySem.W.Frag) : R2 := fun x y H Q => rIxL K x y H Q ∨ rIxT K x y H Q
theorem ix_any {X : Cx} : IxR X (rIxA X.K) := by
  intro value slice pins s σ H x y v u Q I rx ry h hs
  rcases h with h | h
  · exact ix_list value slice pins s σ H x y v u Q I rx ry h hs
  · exact ix_tup value slice pins s σ H x y v u Q I rx ry h hs
theorem ixA {K : PySem.W.Frag} {H : Hp} {a : Addr} {xs : List V} {i : Int} {v : V} {Q : VK} (h : Sq K H a xs) (e : atI xs i = some v) (q : Q v H) : rIxA K (.ref a) (.int i) H Q := by
  rcases h with h | h
  · exact .inl ⟨a, xs, i, v, rfl, rfl, h, e, q⟩
  · exact .inr ⟨a, xs, i, v, rfl, rfl, h, e, q⟩
def posS : List Str → Str → Nat
  | [], _ => 0
  | x :: xs, m => if x = m then 0 else posS xs m + 1
theorem posS_ok {m : Str} : ∀ {xs : List Str}, m ∈ xs → xs[posS xs m]? = some m ∧ ∀ k z, k < posS xs m → xs[k]? = some z → z ≠ m
  | [], h => by cases h
  | x :: xs, h => by
    unfold posS
    by_cases e : x = m
    · rw [if_pos e]
      exact ⟨congrArg some e, fun k z hk => absurd hk (Nat.not_lt_zero k)⟩
    · rw [if_neg e]
      have hm : m ∈ xs := by
        rcases List.mem_cons.mp h with h | h
        · exact absurd h.symm e
        · exact h
      have ih := posS_ok hm
      refine ⟨ih.1, fun k z hk hz => ?_⟩
      cases k with
      | zero =>
        have hz : some x = some z := hz
        rw [← Option.some.inj hz]
        exact e
      | succ k => exact ih.2 k z (by omega) hz
def closedB (ms : List Str) (on : List Bool) (c : Ct) : Bool := match c.mv with
  | none => true
  | some m => on.getD (posS ms m) false == decide (c.whn = makeS)
def spClosed (K : PySem.W.Frag) : Sp := fun vs H Q _ => ∃ (p a t : Addr) (b : Bd) (on : List Bool) (c : Ct), vs = [.ref p, .ref a, .ref t] ∧ SpecAt K H p b ∧ Few b ∧ Sq K H a (on.map V.bl) ∧ on.length = b.movers.length ∧ SqT K H t c.row ∧ ctB b.nodes b.movers c = true ∧
  ∀ H', Same H H' → Q (.bl (closedB b.movers on c)) H'
theorem scClosed : FnScope ["spec", "on", "contact"] ["spec", "on", "contact"] (defScope sLawClosed) := ⟨rfl, rfl, rfl, by decide +kernel, rfl, by decide +kernel, by decide +kernel⟩
theorem ctB_mv {zs ms : List Str} {c : Ct} (h : ctB zs ms c = true) : ∀ m, c.mv = some m → m ∈ ms := by
  unfold ctB at h
  intro m e
  rw [e] at h
  simp only [Bool.and_eq_true, decide_eq_true_eq, Bool.not_eq_true', decide_eq_false_iff_not] at h
  exact h.2.2.2.1.1
theorem ok_closed {f fV : Addr} {fd fdV : FuncData} {k : Nat} (F : Fun K "_law_closed" "_law_closed" sLawClosed f fd) (FV : Fun K "_law_movers" "_law_movers" sLawMovers fV fdV) (bV : Binds K fdV ["spec"] []) (gV : mg "_law_movers" = some (.ref fV)) :
    FnOk P w K mg base CX0 (k + 2) f fd ["spec", "on", "contact"] (spClosed K) := by
  have GV : FnOk P w K mg base CX0 (k + 1) fV fdV ["spec"] (spMoversL K) := ok_moversL FV
  refine F.ok scClosed (fun vs H Q E h => ?_) (fun cdv A outer s H vs Q E hr h => ?_)
  · obtain ⟨p, a, t, b, on, c, rfl, _⟩ := h
    rfl
  · obtain ⟨p, a, t, b, on, c, rfl, hp, few, ha, lon, ht, hc, q⟩ := h
    refine ⟨_, pss_cons (ps_if (pt_cmpR op_isN (pe_ix ix_tup (pv 2) pe_int (fun _ _ => rfl)) pe_non (nomark _)) (pss_one (ps_ret pe_bl)) pss_nil)
      (pss_one (ps_ret (pe_cmpR op_eq (pe_ix ix_any (pv 1) (pe_bm PySem.F.plainAttrs_list PySem.F.slot_list_index PySem.F.type_list_index mt_index (pe_call GV hr (by rfl) gV FV.kp bV .nil pass0 (pa_cons (pv 0) pa_nil)) (pa_cons (pe_ix ix_tup (pv 2) pe_int (fun _ _ => rfl)) pa_nil)) (fun _ _ => rfl))
        (pe_cmpR op_eq (pe_ix ix_tup (pv 2) pe_int (fun _ _ => rfl)) pe_str (nomark _)) (nomark _)))), ?_⟩
    refine ⟨_, rfl, t, _, 2, _, rfl, rfl, ht, rfl, rfl, _, rfl, ?_⟩
    cases e : c.mv with
    | none =>
      have ev : closedB b.movers on c = true := by
        unfold closedB
        rw [e]
      rw [ev] at q
      refine iteT ?_
      exact q H (Same.refl H)
    | some m =>
      have hm := ctB_mv hc m e
      obtain ⟨p1, p2⟩ := posS_ok hm
      have pl : posS b.movers m < on.length := by
        have := (List.getElem?_eq_some_iff.mp p1).1
        omega
      have ev : closedB b.movers on c = (on[posS b.movers m] == decide (c.whn = makeS)) := by
        unfold closedB
        rw [e]
        show (on.getD (posS b.movers m) false == _) = _
        rw [List.getD_eq_getElem?_getD, List.getElem?_eq_getElem pl]
        rfl
      rw [ev] at q
      refine iteF ?_
      refine ⟨_, rfl, _, rfl, p, b, rfl, hp, few, fun H1 o s1 no ho => ?_⟩
      refine ⟨.inl ⟨rfl, _, sq ho⟩, _, rfl, t, _, 2, mvV (some m), rfl, rfl, Same.sqt s1 ht, ?_, o, _, _, posS b.movers m, .str m, rfl, rfl, sq ho, rfl, flat_strs _, ?_, ?_, ?_, ?_⟩
      · rw [← e]
        rfl
      · rw [List.getElem?_map, p1]
        rfl
      · show eqV (.str m) (.str m) = true
        simp [eqV]
      · intro k z hk hz
        rw [List.getElem?_map] at hz
        obtain ⟨y, hy, rfl⟩ := Option.map_eq_some_iff.mp hz
        have := p2 k y hk hy
        show eqV (.str y) (.str m) = false
        simp [eqV, this]
      · refine ixA (Same.sq s1 ha) (v := .bl on[posS b.movers m]) (atI_nat (by rw [List.getElem?_map, List.getElem?_eq_getElem pl]; rfl)) ?_
        refine ⟨_, rfl, t, _, 3, _, rfl, rfl, Same.sqt s1 ht, rfl, rfl, rfl, ?_⟩
        have ez : decide (V.bl on[posS b.movers m] = V.bl (decide (V.str c.whn = V.str "make"))) = (on[posS b.movers m] == decide (c.whn = makeS)) := by
          have e1 : decide (V.str c.whn = V.str "make") = decide (c.whn = makeS) := decide_eq_decide.mpr ⟨fun h => V.str.inj h, fun h => congrArg V.str h⟩
          rw [e1]
          generalize decide (c.whn = makeS) = x
          generalize on[posS b.movers m] = y
          cases x <;> cases y <;> decide
        rw [ez]
        exact q H1 s1
/-! ### _law_pairs -/
def PairL (H : Hp) : List V → List (Str × Str) → Prop
  | [], [] => True
  | v :: xs, p :: ps => (∃ t, v = .ref t ∧ H t = some (.lst [.str p.1, .str p.2])) ∧ PairL H xs ps
  | _, _ => False
theorem PairL.mono {H H' : Hp} (s : Same H H') : ∀ {xs : List V} {ps : List (Str × Str)}, PairL H xs ps → PairL H' xs ps
  | [], [], _ => True.intro
  | _ :: _, _ :: _, ⟨⟨t, e, h⟩, r⟩ => ⟨⟨t, e, s _ _ h⟩, r.mono s⟩
theorem PairL.len {H : Hp} : ∀ {xs : List V} {ps : List (Str × Str)}, PairL H xs ps → xs.length = ps.length
  | [], [], _ => rfl
  | _ :: _, _ :: _, ⟨_, r⟩ => congrArg (· + 1) r.len
theorem PairL.upd {H : Hp} {o : Addr} {ho : HO} : ∀ {xs : List V} {ps : List (Str × Str)}, (∀ v ∈ xs, v ≠ .ref o) → PairL H xs ps → PairL (upd H o ho) xs ps
  | [], [], _, _ => True.intro
  | v :: xs, _ :: _, hn, ⟨⟨t, e, h⟩, r⟩ => ⟨⟨t, e, by
      rw [upd_ne fun z => hn v List.mem_cons_self (by rw [e, z])]
      exact h⟩, PairL.upd (fun u hu => hn u (List.mem_cons_of_mem _ hu)) r⟩
theorem PairL.snoc {H : Hp} {t : Addr} {p : Str × Str} (ht : H t = some (.lst [.str p.1, .str p.2])) : ∀ {xs : List V} {ps : List (Str × Str)}, PairL H xs ps → PairL H (xs ++ [.ref t]) (ps ++ [p])
  | [], [], _ => ⟨⟨t, rfl, ht⟩, True.intro⟩
  | _ :: _, _ :: _, ⟨h, r⟩ => ⟨h, PairL.snoc ht r⟩
theorem PairL.at {H : Hp} : ∀ {xs : List V} {ps : List (Str × Str)} {i : Nat} {v : V}, PairL H xs ps → xs[i]? = some v → ∃ t p, v = .ref t ∧ H t = some (.lst [.str p.1, .str p.2]) ∧ ps[i]? = some p
  | [], [], _, _, _, h => by simp at h
  | x :: xs, p :: ps, 0, v, ⟨⟨t, e, h⟩, _⟩, hi => ⟨t, p, by rw [← e]; exact (Option.some.inj hi).symm, h, rfl⟩
  | x :: xs, p :: ps, i + 1, v, ⟨_, r⟩, hi => by
    obtain ⟨t, q, e, h, hq⟩ := r.at (i := i) hi
    exact ⟨t, q, e, h, hq⟩
/-- the ways that a contact opens -/
def waysOf (ms : List Str) (on : List Bool) (c : Ct) : List (Str × Str) := if closedB ms on c = true then (c.one, c.oth) :: (if c.way = bothS then [(c.oth, c.one)] else []) else []
def pairsF (b : Bd) (on : List Bool) (i : Nat) : List (Str × Str) := ((b.contacts.take i).map (waysOf b.movers on)).flatten
theorem pairsF_succ {b : Bd} {on : List Bool} {i : Nat} {c : Ct} (h : b.contacts[i]? = some c) : pairsF b on (i + 1) = pairsF b on i ++ waysOf b.movers on c := by
  unfold pairsF
  rw [List.take_add_one, h, List.map_append, List.flatten_append]
  simp
theorem waysOf_len (ms : List Str) (on : List Bool) (c : Ct) : (waysOf ms on c).length ≤ 2 := by
  unfold waysOf
  split
  · split <;> simp
  · simp
theorem pairsF_len (b : Bd) (on : List Bool) : ∀ i, (pairsF b on i).length ≤ 2 * i
  | 0 => by
    unfold pairsF
    simp
  | i + 1 => by
    have ih := pairsF_len b on i
    cases h : b.contacts[i]? with
    | none =>
      have e : pairsF b on (i + 1) = pairsF b on i := by
        unfold pairsF
        rw [List.take_add_one, h]
        simp
      rw [e]
      omega
    | some c =>
      rw [pairsF_succ h, List.length_append]
      have := waysOf_len b.movers on c
      omega
def spPairs (K : PySem.W.Frag) : Sp := fun vs H Q _ => ∃ (p a : Addr) (b : Bd) (on : List Bool), vs = [.ref p, .ref a] ∧ SpecAt K H p b ∧ Few b ∧ b.Ok ∧ Sq K H a (on.map V.bl) ∧ on.length = b.movers.length ∧
  ∀ H' o xs, Same H H' → H o = none → H' o = some (.lst xs) → PairL H' xs (pairsF b on b.contacts.length) → Q (.ref o) H'
theorem scPairs : FnScope ["spec", "on", "pairs", "contact"] ["spec", "on"] (defScope sLawPairs) := ⟨rfl, rfl, rfl, by decide +kernel, rfl, by decide +kernel, by decide +kernel⟩
theorem ok_pairs {f fV fC : Addr} {fd fdV fdC : FuncData} {k : Nat} (F : Fun K "_law_pairs" "_law_pairs" sLawPairs f fd) (FV : Fun K "_law_movers" "_law_movers" sLawMovers fV fdV) (bV : Binds K fdV ["spec"] []) (gV : mg "_law_movers" = some (.ref fV))
    (FC : Fun K "_law_closed" "_law_closed" sLawClosed fC fdC) (bC : Binds K fdC ["spec", "on", "contact"] []) (gC : mg "_law_closed" = some (.ref fC)) : FnOk P w K mg base CX0 (k + 3) f fd ["spec", "on"] (spPairs K) := by
  have GC : FnOk P w K mg base CX0 (k + 2) fC fdC ["spec", "on", "contact"] (spClosed K) := ok_closed FC FV bV gV
  refine F.ok scPairs (fun vs H Q E h => ?_) (fun cdv A outer s H vs Q E hr h => ?_)
  · obtain ⟨p, a, b, on, rfl, _⟩ := h
    rfl
  · obtain ⟨p, a, b, on, rfl, hp, few, ok, ha, lon, q⟩ := h
    have hp0 := hp
    obtain ⟨n, sw, r, l, c, xr, xl, xc, h0, h1, h2, h3, h4, h5, h6, h7, h8⟩ := hp
    refine ⟨_, pss_cons (ps_set (i := 2) scPairs.nd rfl (.inl rfl) (pe_lst pa_nil))
      (pss_cons (ps_for PassesOwn.never rfl (pi_list (pe_ix ix_list (pv 0) pe_int (fun _ _ => rfl))) (pg_name (i := 3) scPairs.nd rfl (.inl rfl))
        (pss_one (ps_if (pt_val (pe_call GC hr (by rfl) gC FC.kp bC .nil pass0 (pa_cons (pv 0) (pa_cons (pv 1) (pa_cons (pv 3) pa_nil)))))
          (pss_cons (ps_expr (pe_bm PySem.F.plainAttrs_list PySem.F.slot_list_append PySem.F.type_list_append mt_append (pv 2) (pa_cons (pe_lst (pa_cons (pe_ix ix_tup (pv 3) pe_int (fun _ _ => rfl)) (pa_cons (pe_ix ix_tup (pv 3) pe_int (fun _ _ => rfl)) pa_nil))) pa_nil)))
          (pss_one (ps_if (pt_cmpR op_eq (pe_ix ix_tup (pv 3) pe_int (fun _ _ => rfl)) pe_str (nomark _))
            (pss_one (ps_expr (pe_bm PySem.F.plainAttrs_list PySem.F.slot_list_append PySem.F.type_list_append mt_append (pv 2) (pa_cons (pe_lst (pa_cons (pe_ix ix_tup (pv 3) pe_int (fun _ _ => rfl)) (pa_cons (pe_ix ix_tup (pv 3) pe_int (fun _ _ => rfl)) pa_nil))) pa_nil)))) pss_nil))) pss_nil)))
      (pss_one (ps_ret (pv 2)))), ?_⟩
    refine ⟨Nat.zero_le _, fun o no => ?_⟩
    have s1 := same_upd (o := .lst []) no
    have lc := h8.len
    rw [List.length_map] at lc
    have c40 := ok.ct
    refine ⟨_, rfl, p, _, 4, _, rfl, rfl, sq (s1 _ _ h0), rfl, c, rfl, ⟨_, sq (s1 _ _ h5)⟩, for_list (K := K) (a := c) (xs := xc) (fun i σ G => ∃ (z3 : Option V) (xs : List V), σ = [some (.ref p), some (.ref a), some (.ref o), z3] ∧ Same H G ∧ G o = some (.lst xs) ∧ PairL G xs (pairsF b on i) ∧ ∀ v ∈ xs, v ≠ .ref o) ⟨none, [], rfl, s1, upd_same, by unfold pairsF; simp; exact True.intro, fun v hv => by cases hv⟩ (fun i σ G _ ⟨_, _, _, sm, _⟩ => sq (sm _ _ h5)) ?_ ?_⟩
    · rintro i v σ G hi ⟨z3, xs, rfl, sm, ho, hP, hno⟩
      have hil := (List.getElem?_eq_some_iff.mp hi).1
      obtain ⟨tt, rw_, rfl, hrow, hri⟩ := h8.at hi
      rw [List.getElem?_map] at hri
      obtain ⟨ct, hct, rfl⟩ := Option.map_eq_some_iff.mp hri
      have lp := pairsF_len b on i
      have lx := hP.len
      refine ⟨_, rfl, _, rfl, _, rfl, p, a, tt, b, on, ct, rfl, hp0.mono sm, few, Same.sq sm ha, lon, Same.sqt sm hrow, ok.cts ct (List.mem_of_getElem? hct), fun G2 g2 => ⟨_, rfl, ?_⟩⟩
      have ho2 := g2 _ _ ho
      have hP2 := hP.mono g2
      have sm2 := sm.trans g2
      have hr2 := Same.sqt sm2 hrow
      cases ec : closedB b.movers on ct with
      | false =>
        refine iteF ?_
        have ew : waysOf b.movers on ct = [] := by
          unfold waysOf
          rw [ec]
          rfl
        exact ⟨_, xs, rfl, sm2, ho2, by rw [pairsF_succ hct, ew, List.append_nil]; exact hP2, hno⟩
      | true =>
        refine iteT ?_
        refine ⟨_, rfl, .inl ⟨rfl, _, sq ho2⟩, _, rfl, tt, _, 0, _, rfl, rfl, hr2, rfl, _, rfl, tt, _, 1, _, rfl, rfl, hr2, rfl, by show 2 ≤ sizeLine; decide, fun t1 m1 => ?_⟩
        have g3 := same_upd (o := .lst [.str ct.one, .str ct.oth]) m1
        have n1 : o ≠ t1 := ne_of_none ho2 m1
        refine ⟨o, _, _, rfl, rfl, g3 _ _ ho2, szlt (by omega), ?_⟩
        have hP3 : PairL (upd (upd G2 t1 (.lst [.str ct.one, .str ct.oth])) o (.lst (xs ++ [.ref t1]))) (xs ++ [.ref t1]) (pairsF b on i ++ [(ct.one, ct.oth)]) := by
          refine PairL.snoc (p := (ct.one, ct.oth)) (by rw [upd_ne n1.symm]; exact upd_same) ((hP2.mono g3).upd hno)
        have hno3 : ∀ v ∈ xs ++ [V.ref t1], v ≠ .ref o := fun v hv => by
          rcases List.mem_append.mp hv with h | h
          · exact hno v h
          · rw [List.mem_singleton.mp h]
            exact fun z => n1 (V.ref.inj z).symm
        have sm3 : Same H (upd (upd G2 t1 (.lst [.str ct.one, .str ct.oth])) o (.lst (xs ++ [.ref t1]))) := same_mut (sm2.trans g3) no
        have ho3 := upd_same (H := upd G2 t1 (.lst [.str ct.one, .str ct.oth])) (a := o) (o := .lst (xs ++ [.ref t1]))
        generalize upd (upd G2 t1 (.lst [.str ct.one, .str ct.oth])) o (.lst (xs ++ [.ref t1])) = G4 at *
        have hr4 := Same.sqt sm3 hrow
        refine ⟨_, rfl, tt, _, 4, _, rfl, rfl, hr4, rfl, rfl, _, rfl, ?_⟩
        refine ite2 (fun e => ?_) (fun e => ?_)
        · have eb : ct.way = bothS := V.str.inj (of_decide_eq_true e)
          have ew : waysOf b.movers on ct = [(ct.one, ct.oth), (ct.oth, ct.one)] := by
            unfold waysOf
            rw [ec, if_pos rfl, if_pos eb]
          refine ⟨_, rfl, .inl ⟨rfl, _, sq ho3⟩, _, rfl, tt, _, 1, _, rfl, rfl, hr4, rfl, _, rfl, tt, _, 0, _, rfl, rfl, hr4, rfl, by show 2 ≤ sizeLine; decide, fun t2 m2 => ?_⟩
          have g5 := same_upd (o := .lst [.str ct.oth, .str ct.one]) m2
          have n2 : o ≠ t2 := ne_of_none ho3 m2
          refine ⟨o, _, _, rfl, rfl, g5 _ _ ho3, szlt (by rw [List.length_append]; show _ + 1 ≤ 1000000; omega), ?_⟩
          refine ⟨_, (xs ++ [.ref t1]) ++ [.ref t2], rfl, same_mut (sm3.trans g5) no, upd_same, ?_, fun v hv => ?_⟩
          · rw [pairsF_succ hct, ew, show [(ct.one, ct.oth), (ct.oth, ct.one)] = [(ct.one, ct.oth)] ++ [(ct.oth, ct.one)] from rfl, ← List.append_assoc]
            exact PairL.snoc (p := (ct.oth, ct.one)) (by rw [upd_ne n2.symm]; exact upd_same) ((hP3.mono g5).upd hno3)
          · rcases List.mem_append.mp hv with h | h
            · exact hno3 v h
            · rw [List.mem_singleton.mp h]
              exact fun z => n2 (V.ref.inj z).symm
        · have eb : ¬ ct.way = bothS := fun z => e (decide_eq_true (congrArg V.str z))
          have ew : waysOf b.movers on ct = [(ct.one, ct.oth)] := by
            unfold waysOf
            rw [ec, if_pos rfl, if_neg eb]
          exact ⟨_, _, rfl, sm3, ho3, by rw [pairsF_succ hct, ew]; exact hP3, hno3⟩
    · rintro σ G ⟨z3, xs, rfl, sm, ho, hP, hno⟩
      rw [lc] at hP
      exact ⟨_, rfl, q G o xs sm no ho hP⟩
/-! ### _law_reach -/
def stepB (f : List Str) (p : Str × Str) : Bool := decide (p.1 ∈ f) && !decide (p.2 ∈ f)
def moreF (ps : List (Str × Str)) (f : List Str) : List Str := (ps.filter (stepB f)).map (·.2)
def reachF (ps : List (Str × Str)) : List Str → Nat → List Str
  | f, 0 => f
  | f, n + 1 => if moreF ps f = [] then f else reachF ps (f ++ moreF ps f) n
theorem moreF_len (ps : List (Str × Str)) (f : List Str) : (moreF ps f).length ≤ ps.length := by
  unfold moreF
  rw [List.length_map]
  exact List.length_filter_le _ _
theorem moreF_t {ps : List (Str × Str)} {f : List Str} {j : Nat} {p : Str × Str} (h : ps[j]? = some p) (e : stepB f p = true) : moreF (ps.take (j + 1)) f = moreF (ps.take j) f ++ [p.2] := by
  unfold moreF
  rw [List.take_add_one, h, List.filter_append, List.map_append]
  show _ ++ List.map _ (List.filter (stepB f) [p]) = _
  rw [List.filter_cons_of_pos e, List.filter_nil]
  rfl
theorem moreF_f {ps : List (Str × Str)} {f : List Str} {j : Nat} {p : Str × Str} (h : ps[j]? = some p) (e : stepB f p = false) : moreF (ps.take (j + 1)) f = moreF (ps.take j) f := by
  unfold moreF
  rw [List.take_add_one, h, List.filter_append, List.map_append]
  show _ ++ List.map _ (List.filter (stepB f) [p]) = _
  rw [List.filter_cons_of_neg (by rw [e]; exact Bool.false_ne_true), List.filter_nil]
  exact List.append_nil _
def spReach (K : PySem.W.Frag) : Sp := fun vs H Q _ => ∃ (p a : Addr) (b : Bd) (xs : List V) (ps : List (Str × Str)) (z : Str), vs = [.ref p, .ref a, .str z] ∧ SpecAt K H p b ∧ b.nodes.length ≤ 16 ∧ H a = some (.lst xs) ∧ PairL H xs ps ∧ ps.length ≤ 100 ∧
  ∀ H' o, Same H H' → H o = none → H' o = some (.lst ((reachF ps [z] b.nodes.length).map V.str)) → Q (.ref o) H'
theorem scReach : FnScope ["spec", "pairs", "start", "found", "turn", "more", "pair"] ["spec", "pairs", "start"] (defScope sLawReach) := ⟨rfl, rfl, rfl, by decide +kernel, rfl, by decide +kernel, by decide +kernel⟩
theorem ok_reach {f : Addr} {fd : FuncData} {k : Nat} (F : Fun K "_law_reach" "_law_reach" sLawReach f fd) (mr : mg "range" = none) (ml : mg "len" = none) : FnOk P w K mg base CX0 (k + 1) f fd ["spec", "pairs", "start"] (spReach K) := by
  refine F.ok scReach (fun vs H Q E h => ?_) (fun cdv A outer s H vs Q E hr h => ?_)
  · obtain ⟨p, a, b, xs, ps, z, rfl, _⟩ := h
    rfl
  · obtain ⟨p, a, b, xs, ps, z, rfl, hp, b16, ha, hP, p100, q⟩ := h
    obtain ⟨n, sw, r, l, c, xr, xl, xc, h0, h1, h2, h3, h4, h5, h6, h7, h8⟩ := hp
    refine ⟨_, pss_cons (ps_set (i := 3) scReach.nd rfl (.inr rfl) (pe_lst (pa_cons (pv 2) pa_nil)))
      (pss_cons (ps_for PassesOwn.never rfl (pi_range1 rfl mr (pa_cons (pe_callB call_len_seq (by rfl) ml PySem.boot_len (pa_cons (pe_ix ix_list (pv 0) pe_int (fun _ _ => rfl)) pa_nil)) pa_nil)) (pg_name (i := 4) scReach.nd rfl (.inl rfl))
        (pss_cons (ps_setLc (i := 5) (own := [("pair", 6)]) (g := gName 6) (tt := tAnd (tTest (tOp (rIn K false) (tOp (rIxL K) (tVar 6) (tC (.int 0))) (tVar 3))) (tTest (tOp (rIn K true) (tOp (rIxL K) (tVar 6) (tC (.int 1))) (tVar 3)))) (te := tOp (rIxL K) (tVar 6) (tC (.int 1))) rfl scReach.nd rfl rfl (sw_true rfl rfl rfl (by decide +kernel)) (pi_list (pv 1)) (blkOk_by (N := ["spec", "pairs", "start", "found", "turn", "more", "pair"]) (sc := defScope sLawReach) (by decide +kernel)) (fun _ _ _ _ _ => pg_name (i := 6) scReach.nd rfl (Or.inl rfl))
            (fun _ _ _ _ _ => pts_one (PW.pt (pw_and (pt_cmpR op_in_seq (pe_ix ix_list (pv 6) pe_int (fun _ _ => rfl)) (pv 3) (by rfl)) (pw_and1 (pt_cmpR op_notIn_seq (pe_ix ix_list (pv 6) pe_int (fun _ _ => rfl)) (pv 3) (by rfl))))))
            (fun _ _ _ _ _ => pe_ix ix_list (pv 6) pe_int (fun _ _ => rfl)))
        (pss_cons (ps_if (pt_cmpR op_eq (pe_callB call_len_seq (by rfl) ml PySem.boot_len (pa_cons (pv 5) pa_nil)) pe_int (nomark _)) (pss_one (ps_ret (pv 3))) pss_nil)
        (pss_one (ps_set (i := 3) scReach.nd rfl (.inr rfl) (pe_op op_cat (pv 3) (pv 5)))))))
      (pss_one (ps_ret (pv 3)))), ?_⟩
    have lx := hP.len
    refine ⟨_, rfl, by show 1 ≤ sizeLine; decide, fun o0 n0 => ?_⟩
    have s1 := same_upd (o := .lst [.str z]) n0
    refine ⟨_, rfl, p, _, 0, _, rfl, rfl, sq (s1 _ _ h0), rfl, n, _, rfl, .inl (sq (s1 _ _ h1)), (b.nodes.length : Int), by rw [List.length_map], by omega, by omega, ?_⟩
    refine for_range (lo := 0) (n := (b.nodes.length : Int).toNat) (fun i σ G => ∃ (o : Addr) (g : List Str) (z4 z5 : Option V), σ = [some (.ref p), some (.ref a), some (.str z), some (.ref o), z4, z5, none] ∧ Same H G ∧ H o = none ∧ G o = some (.lst (g.map V.str)) ∧ g.length ≤ 1 + i * 100 ∧ reachF ps [z] b.nodes.length = reachF ps g (b.nodes.length - i)) ⟨o0, [z], none, none, rfl, s1, n0, upd_same, by simp, rfl⟩ ?_ ?_
    · rintro i σ G hi ⟨o, g, z4, z5, rfl, sm, no, hg, gl, er⟩
      have hi16 : i < b.nodes.length := by omega
      have gl2 : g.length ≤ 1601 := by omega
      refine ⟨_, rfl, a, rfl, ⟨_, sq (sm _ _ ha)⟩, fun D nD => ?_⟩
      refine lc_list (K := K) (a := a) (xs := xs) (fun j G2 => Same G G2 ∧ G2 D = some (.lst ((moreF (ps.take j) g).map V.str))) ⟨same_upd nD, upd_same⟩ (fun j G2 _ h => sq (h.1 _ _ (sm _ _ ha))) ?_ ?_
      · rintro j v G2 hj ⟨gs, hd⟩
        obtain ⟨t, pr, rfl, ht, hpr⟩ := hP.at hj
        have ht2 := gs _ _ (sm _ _ ht)
        have hg2 := gs _ _ hg
        have lm := moreF_len (ps.take j) g
        rw [List.length_take] at lm
        refine ⟨rfl, _, rfl, t, _, 0, _, rfl, rfl, sq ht2, rfl, _, rfl, o, _, rfl, .inl (sq hg2), rfl, flat_strs _, _, rfl, ?_⟩
        rw [if_neg Bool.false_ne_true, inV_str]
        refine ite2 (fun e1 => ?_) (fun e1 => ?_)
        · refine ⟨_, rfl, t, _, 1, _, rfl, rfl, sq ht2, rfl, _, rfl, o, _, rfl, .inl (sq hg2), rfl, flat_strs _, _, rfl, ?_⟩
          rw [if_pos rfl, inV_str]
          refine ite2 (fun e2 => ?_) (fun e2 => ?_)
          · have es : stepB g pr = true := by
              unfold stepB
              rw [e1, e2]
              rfl
            refine ⟨_, rfl, t, _, 1, _, rfl, rfl, sq ht2, rfl, _, hd, ?_, same_mut gs nD, ?_⟩
            · rw [List.length_map]
              exact szlt (by omega)
            · rw [upd_same, moreF_t hpr es, map_snoc]
          · have es : stepB g pr = false := by
              unfold stepB
              rw [e1, Bool.eq_false_iff.mpr e2]
              rfl
            exact ⟨gs, by rw [moreF_f hpr es]; exact hd⟩
        · have es : stepB g pr = false := by
            unfold stepB
            rw [Bool.eq_false_iff.mpr e1]
            rfl
          exact ⟨gs, by rw [moreF_f hpr es]; exact hd⟩
      rintro G2 ⟨gs, hd⟩
      rw [lx, List.take_length] at hd
      have lm := moreF_len ps g
      have sm2 := sm.trans gs
      have hg2 := gs _ _ hg
      have er2 : reachF ps g (b.nodes.length - i) = if moreF ps g = [] then g else reachF ps (g ++ moreF ps g) (b.nodes.length - (i + 1)) := by
        rw [show b.nodes.length - i = (b.nodes.length - (i + 1)) + 1 by omega]
        rfl
      refine ⟨_, rfl, D, _, rfl, .inl (sq hd), rfl, _, rfl, ?_⟩
      refine ite2 (fun e => ?_) (fun e => ?_)
      · have e := V.int.inj (of_decide_eq_true e)
        rw [List.length_map] at e
        have e0 : moreF ps g = [] := List.eq_nil_of_length_eq_zero (by omega)
        rw [e0, if_pos rfl] at er2
        exact ⟨_, rfl, q G2 o sm2 no (by rw [er, er2]; exact hg2)⟩
      · have e0 : moreF ps g ≠ [] := fun z => e (decide_eq_true (by rw [z]; rfl))
        rw [if_neg e0] at er2
        refine ⟨_, rfl, _, rfl, o, D, _, _, rfl, rfl, hg2, hd, szl (by rw [List.length_map, List.length_map]; omega), fun o2 n2 => ?_⟩
        refine ⟨o2, g ++ moreF ps g, _, _, rfl, sm2.trans (same_upd n2), sm2.free n2, by rw [upd_same, List.map_append], by rw [List.length_append]; omega, er.trans er2⟩
    · rintro σ G ⟨o, g, z4, z5, rfl, sm, no, hg, gl, er⟩
      rw [show b.nodes.length - (b.nodes.length : Int).toNat = 0 by omega] at er
      exact ⟨_, rfl, q G o sm no (by rw [er]; exact hg)⟩
/-! ### _law_reaches, _law_state -/
def n0 (b : Bd) : Str := b.nodes.getD 0 ""
def n1 (b : Bd) : Str := b.nodes.getD 1 ""
theorem nodes01 {b : Bd} (ok : b.Ok) : b.nodes[0]? = some (n0 b) ∧ b.nodes[1]? = some (n1 b) ∧ b.nodes.length ≤ 16 := by
  have h := areNm_names ok.nodes
  have l := h.2.2.1
  refine ⟨?_, ?_, h.2.2.2⟩
  · unfold n0
    rw [List.getD_eq_getElem?_getD, List.getElem?_eq_getElem (show 0 < b.nodes.length by omega)]
    rfl
  · unfold n1
    rw [List.getD_eq_getElem?_getD, List.getElem?_eq_getElem (show 1 < b.nodes.length by omega)]
    rfl
theorem at_row {zs : List Str} {i : Nat} {z : Str} (h : zs[i]? = some z) : atI (zs.map V.str) (i : Int) = some (.str z) := atI_nat (by rw [List.getElem?_map, h]; rfl)
def fedF (b : Bd) (on : List Bool) : List Str := reachF (pairsF b on b.contacts.length) [n0 b] b.nodes.length
def shortF (b : Bd) (on : List Bool) : Bool := decide (n1 b ∈ fedF b on)
def spReaches (K : PySem.W.Frag) : Sp := fun vs H Q _ => ∃ (p a : Addr) (b : Bd) (on : List Bool), vs = [.ref p, .ref a] ∧ SpecAt K H p b ∧ Few b ∧ b.Ok ∧ Sq K H a (on.map V.bl) ∧ on.length = b.movers.length ∧ ∀ H', Same H H' → Q (.bl (shortF b on)) H'
theorem scReaches : FnScope ["spec", "on"] ["spec", "on"] (defScope sLawReaches) := ⟨rfl, rfl, rfl, by decide +kernel, rfl, by decide +kernel, by decide +kernel⟩
theorem ok_reaches {f fV fC fP fR : Addr} {fd fdV fdC fdP fdR : FuncData} {k : Nat} (F : Fun K "_law_reaches" "_law_reaches" sLawReaches f fd) (FV : Fun K "_law_movers" "_law_movers" sLawMovers fV fdV) (bV : Binds K fdV ["spec"] []) (gV : mg "_law_movers" = some (.ref fV))
    (FC : Fun K "_law_closed" "_law_closed" sLawClosed fC fdC) (bC : Binds K fdC ["spec", "on", "contact"] []) (gC : mg "_law_closed" = some (.ref fC)) (FP : Fun K "_law_pairs" "_law_pairs" sLawPairs fP fdP) (bP : Binds K fdP ["spec", "on"] []) (gP : mg "_law_pairs" = some (.ref fP))
    (FR : Fun K "_law_reach" "_law_reach" sLawReach fR fdR) (bR : Binds K fdR ["spec", "pairs", "start"] []) (gR : mg "_law_reach" = some (.ref fR)) (mr : mg "range" = none) (ml : mg "len" = none) : FnOk P w K mg base CX0 (k + 4) f fd ["spec", "on"] (spReaches K) := by
  have GP : FnOk P w K mg base CX0 (k + 3) fP fdP ["spec", "on"] (spPairs K) := ok_pairs FP FV bV gV FC bC gC
  have GR : FnOk P w K mg base CX0 (k + 1) fR fdR ["spec", "pairs", "start"] (spReach K) := ok_reach FR mr ml
  refine F.ok scReaches (fun vs H Q E h => ?_) (fun cdv A outer s H vs Q E hr h => ?_)
  · obtain ⟨p, a, b, on, rfl, _⟩ := h
    rfl
  · obtain ⟨p, a, b, on, rfl, hp, few, ok, ha, lon, q⟩ := h
    have hr1 : Room (k + 1) _ := hr.mono (by omega)
    obtain ⟨z0, z1, l16⟩ := nodes01 ok
    refine ⟨_, pss_one (ps_ret (pe_cmpR op_in_seq (pe_ix ix_list (pe_ix ix_list (pv 0) pe_int (fun _ _ => rfl)) pe_int (fun _ _ => rfl))
      (pe_call GR hr1 (by rfl) gR FR.kp bR .nil pass0 (pa_cons (pv 0) (pa_cons (pe_call GP hr (by rfl) gP FP.kp bP .nil pass0 (pa_cons (pv 0) (pa_cons (pv 1) pa_nil))) (pa_cons (pe_ix ix_list (pe_ix ix_list (pv 0) pe_int (fun _ _ => rfl)) pe_int (fun _ _ => rfl)) pa_nil)))) (by rfl))), ?_⟩
    have hp0 := hp
    obtain ⟨n, sw, r, l, c, xr, xl, xc, h0, h1, h2, h3, h4, h5, h6, h7, h8⟩ := hp
    refine ⟨_, rfl, p, _, 0, _, rfl, rfl, sq h0, rfl, n, _, 1, _, rfl, rfl, sq h1, at_row z1, _, rfl, _, rfl, _, rfl, p, a, b, on, rfl, hp0, few, ok, ha, lon, fun H1 o xs s1 no ho hP => ?_⟩
    have lp := pairsF_len b on b.contacts.length
    have c40 := ok.ct
    refine ⟨_, rfl, p, _, 0, _, rfl, rfl, sq (s1 _ _ h0), rfl, n, _, 0, _, rfl, rfl, sq (s1 _ _ h1), at_row z0, p, o, b, xs, _, n0 b, rfl, hp0.mono s1, l16, ho, hP, by omega, fun H2 o2 s2 no2 ho2 => ?_⟩
    refine ⟨o2, _, rfl, .inl (sq ho2), rfl, flat_strs _, ?_⟩
    rw [if_neg Bool.false_ne_true, inV_str]
    exact q H2 (s1.trans s2)
def spState (K : PySem.W.Frag) : Sp := fun vs H Q _ => ∃ (p a : Addr) (at_ : Nat) (b : Bd) (ns : List Int), vs = [.ref p, .ref a, .int at_] ∧ SpecAt K H p b ∧ Few b ∧ b.Ok ∧ SqL K H a (ns.map V.int) ∧ Nums ns ∧ at_ + 15 ≤ ns.length ∧
  ∀ H' t tt (on : List Bool) (u : Bool), Same H H' → H t = none → H' t = some (.tup [.ref tt, .bl (u || shortF b on)]) → SqT K H' tt (on.map V.bl) → on.length = b.movers.length → Q (.ref t) H'
theorem scState : FnScope ["spec", "numbers", "at", "movers", "on", "k"] ["spec", "numbers", "at"] (defScope sLawState) := ⟨rfl, rfl, rfl, by decide +kernel, rfl, by decide +kernel, by decide +kernel⟩
theorem ok_state {f fV fC fP fR fS : Addr} {fd fdV fdC fdP fdR fdS : FuncData} {k : Nat} (F : Fun K "_law_state" "_law_state" sLawState f fd) (FV : Fun K "_law_movers" "_law_movers" sLawMovers fV fdV) (bV : Binds K fdV ["spec"] []) (gV : mg "_law_movers" = some (.ref fV))
    (FC : Fun K "_law_closed" "_law_closed" sLawClosed fC fdC) (bC : Binds K fdC ["spec", "on", "contact"] []) (gC : mg "_law_closed" = some (.ref fC)) (FP : Fun K "_law_pairs" "_law_pairs" sLawPairs fP fdP) (bP : Binds K fdP ["spec", "on"] []) (gP : mg "_law_pairs" = some (.ref fP))
    (FR : Fun K "_law_reach" "_law_reach" sLawReach fR fdR) (bR : Binds K fdR ["spec", "pairs", "start"] []) (gR : mg "_law_reach" = some (.ref fR)) (FS : Fun K "_law_reaches" "_law_reaches" sLawReaches fS fdS) (bS : Binds K fdS ["spec", "on"] []) (gS : mg "_law_reaches" = some (.ref fS))
    (mr : mg "range" = none) (ml : mg "len" = none) (mi : mg "int" = none) (mt : mg "tuple" = none) : FnOk P w K mg base CX0 (k + 5) f fd ["spec", "numbers", "at"] (spState K) := by
  have GV : FnOk P w K mg base CX0 (k + 1) fV fdV ["spec"] (spMoversL K) := ok_moversL FV
  have GS : FnOk P w K mg base CX0 (k + 4) fS fdS ["spec", "on"] (spReaches K) := ok_reaches FS FV bV gV FC bC gC FP bP gP FR bR gR mr ml
  refine F.ok scState (fun vs H Q E h => ?_) (fun cdv A outer s H vs Q E hr h => ?_)
  · obtain ⟨p, a, at_, b, ns, rfl, _⟩ := h
    rfl
  · obtain ⟨p, a, at_, b, ns, rfl, hp, few, ok, hS, hn, hl, q⟩ := h
    have hr1 : Room (k + 1) _ := hr.mono (by omega)
    refine ⟨_, pss_cons (ps_set (i := 3) scState.nd rfl (.inl rfl) (pe_call GV hr1 (by rfl) gV FV.kp bV .nil pass0 (pa_cons (pv 0) pa_nil)))
      (pss_cons (ps_setLc (i := 4) (own := [("k", 5)]) (g := gName 5) (tt := tYes) (te := tOp rEq (tOp rModW (tCB (fun xs H Q => (∃ i, xs = [.int i] ∧ Q (.int i) H) ∨ ∃ k, xs = [.bl k] ∧ Q (.int (if k then 1 else 0)) H) (tCons (tOp (rIxL K) (tVar 1) (tOp (rI0 fun i j => .int (i + j)) (tVar 2) (tVar 5))) tNil)) (tC (.int 2))) (tC (.int 1))) rfl scState.nd rfl rfl (sw_true rfl rfl rfl (by decide +kernel)) (pi_range1 rfl mr (pa_cons (pe_callB call_len_seq (by rfl) ml PySem.boot_len (pa_cons (pv 3) pa_nil)) pa_nil)) (blkOk_by (N := ["spec", "numbers", "at", "movers", "on", "k"]) (sc := defScope sLawState) (by decide +kernel)) (fun _ _ _ _ _ => pg_name (i := 5) scState.nd rfl (Or.inl rfl)) (fun _ _ _ _ _ => pts_nil)
          (fun _ _ _ _ _ => pe_cmpR op_eq (pe_op op_modW (pe_callTy call_int1 (by rfl) mi (by decide +kernel) (pa_cons (pe_ix ix_list (pv 1) (pe_op op_add (pv 2) (pv 5)) (fun _ _ => rfl)) pa_nil)) pe_int) pe_int (nomark _)))
      (pss_one (ps_ret (pe_tup (pa_cons (pe_callTy call_tupA (by rfl) mt (by decide +kernel) (pa_cons (pv 4) pa_nil)) (pa_cons (pe_or (pe_cmpR op_eq (pe_op op_modW (pe_callTy call_int1 (by rfl) mi (by decide +kernel) (pa_cons (pe_ix ix_list (pv 1) (pe_op op_add (pv 2) pe_int) (fun _ _ => rfl)) pa_nil)) pe_int) pe_int (nomark _))
        (pe_one (pe_call GS hr (by rfl) gS FS.kp bS .nil pass0 (pa_cons (pv 0) (pa_cons (pv 4) pa_nil))))) pa_nil)))))), ?_⟩
    have m14 : b.movers.length ≤ 14 := by
      show (b.switches ++ b.relays.map (·.nm)).length ≤ 14
      rw [List.length_append, List.length_map]
      have := ok.sw
      have := ok.rl
      omega
    refine ⟨_, rfl, p, b, rfl, hp, few, fun H1 om s1 nm hm => ?_⟩
    have hS1 := s1.seq hS
    refine ⟨_, rfl, om, _, rfl, .inl (sq hm), (b.movers.length : Int), by rw [List.length_map], by omega, by omega, fun D nD => ?_⟩
    refine lc_range (lo := 0) (n := (b.movers.length : Int).toNat) (fun i G => ∃ on : List Bool, Same H1 G ∧ G D = some (.lst (on.map V.bl)) ∧ on.length = i) ⟨[], same_upd nD, upd_same, rfl⟩ ?_ ?_
    · rintro i G hi ⟨on, gs, hd, lo⟩
      obtain ⟨_, _, gi⟩ := at_get hn (show at_ + i < ns.length by omega)
      refine ⟨rfl, ?_⟩
      refine yesT ?_
      refine ⟨_, rfl, _, rfl, _, rfl, _, _, rfl, rfl, a, _, _, _, rfl, rfl, gs.seq hS1, gi _ (by omega), .inl ⟨_, rfl, ?_⟩⟩
      refine modE (by decide) fun r _ hr2 => ?_
      refine ⟨rfl, _, hd, szlt (by rw [List.length_map]; omega), on ++ [_], same_mut gs nD, by rw [upd_same, map_snoc], by rw [List.length_append, lo]; rfl⟩
    rintro H2 ⟨on, s2, hd, lo⟩
    have lon : on.length = b.movers.length := by omega
    have s12 := s1.trans s2
    obtain ⟨_, _, g14⟩ := at_get hn (show at_ + 14 < ns.length by omega)
    refine ⟨_, rfl, ?_⟩
    refine tup_any (.inl (sq hd)) fun tt H3 s3 ht => ?_
    have s13 := s12.trans s3
    have hd3 := s3 _ _ hd
    refine ⟨_, rfl, _, rfl, _, _, rfl, rfl, a, _, _, _, rfl, rfl, s13.seq hS, g14 _ (by omega), .inl ⟨_, rfl, ?_⟩⟩
    refine modE (by decide) fun r _ hr2 => ?_
    refine ⟨rfl, _, rfl, ?_⟩
    refine ite2 (fun e => ?_) (fun e => ?_)
    · refine ⟨by show 2 ≤ sizeLine; decide, fun t nt => ?_⟩
      have s4 := same_upd (o := .tup [.ref tt, .bl true]) nt
      have ht4 : (upd H3 t (.tup [.ref tt, .bl true])) t = some (.tup [.ref tt, .bl (true || shortF b on)]) := upd_same
      exact q _ t tt on true (s13.trans s4) (s13.free nt) ht4 (Same.sqt s4 ht) lon
    · refine ⟨_, rfl, _, rfl, p, D, b, on, rfl, hp.mono s13, few, ok, .inl (sq hd3), lon, fun H4 s4 => ?_⟩
      refine ⟨by show 2 ≤ sizeLine; decide, fun t nt => ?_⟩
      have s5 := same_upd (o := .tup [.ref tt, .bl (shortF b on)]) nt
      refine q _ t tt on false ((s13.trans s4).trans s5) ((s13.trans s4).free nt) ?_ (Same.sqt (s4.trans s5) ht) lon
      rw [upd_same, Bool.false_or]
/-! ### what _law_reach finds: all that the pairs lead to -/
theorem nodup_len : ∀ (xs ys : List Str), xs.Nodup → (∀ x ∈ xs, x ∈ ys) → xs.length ≤ ys.length
  | [], _, _, _ => Nat.zero_le _
  | x :: xs, ys, nd, h => by
    rw [List.nodup_cons] at nd
    have hx := h x List.mem_cons_self
    have ih := nodup_len xs (ys.erase x) nd.2 fun y hy => (List.mem_erase_of_ne (fun (e : y = x) => nd.1 (e ▸ hy))).mpr (h y (List.mem_cons_of_mem _ hy))
    rw [List.length_erase_of_mem hx] at ih
    have := List.length_pos_of_mem hx
    rw [List.length_cons]
    omega

inductive Path (ps : List (Str × Str)) (z : Str) : Str → Prop where
  | base : Path ps z z
  | step {x y : Str} (h : Path ps z x) (e : (x, y) ∈ ps) : Path ps z y
theorem mem_moreF {ps : List (Str × Str)} {f : List Str} {y : Str} : y ∈ moreF ps f ↔ ∃ x, (x, y) ∈ ps ∧ x ∈ f ∧ y ∉ f := by
  unfold moreF stepB
  constructor
  · intro h
    obtain ⟨p, hp, rfl⟩ := List.mem_map.mp h
    have hp := List.mem_filter.mp hp
    have h2 := hp.2
    simp only [Bool.and_eq_true, decide_eq_true_eq, Bool.not_eq_true', decide_eq_false_iff_not] at h2
    exact ⟨p.1, hp.1, h2.1, h2.2⟩
  · rintro ⟨x, h1, h2, h3⟩
    refine List.mem_map.mpr ⟨(x, y), List.mem_filter.mpr ⟨h1, ?_⟩, rfl⟩
    simp only [Bool.and_eq_true, decide_eq_true_eq, Bool.not_eq_true', decide_eq_false_iff_not]
    exact ⟨h2, h3⟩
theorem reachF_sound {ps : List (Str × Str)} {z : Str} : ∀ (n : Nat) (f : List Str), (∀ x ∈ f, Path ps z x) → ∀ x ∈ reachF ps f n, Path ps z x
  | 0, f, h => h
  | n + 1, f, h => by
    unfold reachF
    split
    · exact h
    · refine reachF_sound n _ fun x hx => ?_
      rcases List.mem_append.mp hx with hx | hx
      · exact h x hx
      · obtain ⟨y, h1, h2, _⟩ := mem_moreF.mp hx
        exact .step (h y h2) h1
theorem reachF_sub {ps : List (Str × Str)} : ∀ (n : Nat) (f : List Str), ∀ x ∈ f, x ∈ reachF ps f n
  | 0, f, x, h => h
  | n + 1, f, x, h => by
    unfold reachF
    split
    · exact h
    · exact reachF_sub n _ x (List.mem_append.mpr (.inl h))
theorem reachF_grows {ps : List (Str × Str)} : ∀ (n : Nat) (f ds : List Str) (k : Nat), ds.Nodup → (∀ d ∈ ds, d ∈ f) → k ≤ ds.length → moreF ps (reachF ps f n) = [] ∨ ∃ es : List Str, es.Nodup ∧ (∀ e ∈ es, e ∈ reachF ps f n) ∧ k + n ≤ es.length
  | 0, f, ds, k, h1, h2, h3 => .inr ⟨ds, h1, h2, by omega⟩
  | n + 1, f, ds, k, h1, h2, h3 => by
    unfold reachF
    split
    · rename_i h
      exact .inl h
    · rename_i h
      obtain ⟨y, hy⟩ := List.exists_mem_of_ne_nil _ h
      obtain ⟨x, _, _, hn⟩ := mem_moreF.mp hy
      have ih := reachF_grows (ps := ps) n (f ++ moreF ps f) (y :: ds) (k + 1) (List.nodup_cons.mpr ⟨fun hd => hn (h2 y hd), h1⟩) (fun d hd => by
        rcases List.mem_cons.mp hd with e | hd
        · rw [e]
          exact List.mem_append.mpr (.inr hy)
        · exact List.mem_append.mpr (.inl (h2 d hd))) (by rw [List.length_cons]; omega)
      rcases ih with h | ⟨es, a, b, c⟩
      · exact .inl h
      · exact .inr ⟨es, a, b, by omega⟩
theorem Path.sub {ps : List (Str × Str)} {z : Str} {nodes : List Str} (hz : z ∈ nodes) (hp : ∀ p ∈ ps, p.2 ∈ nodes) : ∀ {x}, Path ps z x → x ∈ nodes
  | _, .base => hz
  | _, .step _ e => hp _ e
theorem reachF_mem {ps : List (Str × Str)} {z : Str} {nodes : List Str} (hz : z ∈ nodes) (hp : ∀ p ∈ ps, p.2 ∈ nodes) {x : Str} : x ∈ reachF ps [z] nodes.length ↔ Path ps z x := by
  have snd := reachF_sound (ps := ps) (z := z) nodes.length [z] (fun x hx => by rw [List.mem_singleton.mp hx]; exact .base)
  constructor
  · exact snd x
  · intro h
    rcases reachF_grows (ps := ps) nodes.length [z] [z] 1 (by simp) (fun d hd => hd) (Nat.le_refl _) with hm | ⟨es, h1, h2, h3⟩
    · induction h with
      | base => exact reachF_sub _ _ z (List.mem_singleton.mpr rfl)
      | @step a b _ e ih =>
        by_cases hb : b ∈ reachF ps [z] nodes.length
        · exact hb
        · have : b ∈ moreF ps (reachF ps [z] nodes.length) := mem_moreF.mpr ⟨a, e, ih, hb⟩
          rw [hm] at this
          cases this
    · have := nodup_len es nodes h1 fun e he => (snd e (h2 e he)).sub hz hp
      omega
/-! ### _spread -/
def natV (n : Nat) : V := .int (n : Int)
def outs (ps : List (Nat × Nat)) (j : Nat) : List Nat := (ps.filter fun p => decide (p.1 = j)).map (·.2)
structure Heads (H : Hp) (as : List Addr) (f : Nat → List Nat) : Prop where
  nd : as.Nodup
  at_ : ∀ (j : Nat) (a : Addr), as[j]? = some a → H a = some (.lst ((f j).map natV))
theorem Heads.mono {H H' : Hp} {as : List Addr} {f : Nat → List Nat} (s : Same H H') (h : Heads H as f) : Heads H' as f := ⟨h.nd, fun j a e => s _ _ (h.at_ j a e)⟩
theorem Heads.upd {H : Hp} {as : List Addr} {f : Nat → List Nat} {o : Addr} {ho : HO} (hn : ∀ a ∈ as, a ≠ o) (h : Heads H as f) : Heads (upd H o ho) as f :=
  ⟨h.nd, fun j a e => by
    rw [upd_ne (hn a (List.mem_of_getElem? e))]
    exact h.at_ j a e⟩
theorem nd_addr {as : List Addr} (nd : as.Nodup) {i j : Nat} {a : Addr} (h1 : as[i]? = some a) (h2 : as[j]? = some a) : i = j := by
  have l1 := (List.getElem?_eq_some_iff.mp h1)
  have l2 := (List.getElem?_eq_some_iff.mp h2)
  obtain ⟨q1, e1⟩ := l1
  obtain ⟨q2, e2⟩ := l2
  exact (List.getElem_inj nd).mp (e1.trans e2.symm)
theorem Heads.put {H : Hp} {as : List Addr} {f : Nat → List Nat} {j x : Nat} {a : Addr} (h : Heads H as f) (ha : as[j]? = some a) : Heads (L2.upd H a (.lst ((f j).map natV ++ [natV x]))) as (fun k => if k = j then f j ++ [x] else f k) :=
  ⟨h.nd, fun k c e => by
    by_cases hk : k = j
    · subst hk
      rw [ha] at e
      cases e
      rw [upd_same, if_pos rfl, List.map_append]
      rfl
    · have hne : c ≠ a := fun z => hk (nd_addr h.nd e (z ▸ ha))
      rw [upd_ne hne, if_neg hk]
      exact h.at_ k c e⟩
theorem outs_snoc {ps : List (Nat × Nat)} {i : Nat} {p : Nat × Nat} (h : ps[i]? = some p) (k : Nat) : outs (ps.take (i + 1)) k = if k = p.1 then outs (ps.take i) p.1 ++ [p.2] else outs (ps.take i) k := by
  unfold outs
  rw [List.take_add_one, h, List.filter_append, List.map_append]
  by_cases hk : k = p.1
  · subst hk
    rw [if_pos rfl]
    simp
  · rw [if_neg hk]
    have : p.1 ≠ k := fun z => hk z.symm
    simp [this]
/-! counts of what is not yet found -/
def cntF (fl : List Bool) : Nat := fl.countP fun x => !x
theorem cntF_set : ∀ {fl : List Bool} {j : Nat}, fl[j]? = some false → cntF (fl.set j true) + 1 = cntF fl
  | [], j, h => by simp at h
  | b :: fl, 0, h => by
    have e : b = false := Option.some.inj h
    subst e
    unfold cntF
    simp
  | b :: fl, j + 1, h => by
    have ih := cntF_set (fl := fl) (j := j) h
    unfold cntF at ih ⊢
    rw [List.set_cons_succ, List.countP_cons, List.countP_cons]
    omega
theorem set_get {fl : List Bool} {h j : Nat} : (fl.set h true)[j]? = some true ↔ (j = h ∧ h < fl.length) ∨ fl[j]? = some true := by
  rw [List.getElem?_set]
  by_cases e : h = j
  · subst e
    rw [if_pos rfl]
    by_cases l : h < fl.length
    · rw [if_pos l]
      simp [l]
    · rw [if_neg l]
      have : fl[h]? = none := List.getElem?_eq_none (by omega)
      simp [l, this]
  · rw [if_neg e]
    constructor
    · exact .inr
    · rintro (⟨a, _⟩ | a)
      · exact absurd a.symm e
      · exact a
def isFV : V → Bool
  | .bl false => true
  | _ => false
theorem cntV (fl : List Bool) : (fl.map V.bl).countP isFV = cntF fl := by
  unfold cntF
  rw [List.countP_map]
  congr 1
  funext x
  cases x <;> rfl
theorem mem_outs {ps : List (Nat × Nat)} {x y : Nat} : y ∈ outs ps x ↔ (x, y) ∈ ps := by
  unfold outs
  constructor
  · intro h
    obtain ⟨p, hp, rfl⟩ := List.mem_map.mp h
    have hp := List.mem_filter.mp hp
    have e : p.1 = x := of_decide_eq_true hp.2
    rw [← e]
    exact hp.1
  · intro h
    exact List.mem_map.mpr ⟨(x, y), List.mem_filter.mpr ⟨h, decide_eq_true rfl⟩, rfl⟩
theorem outs_len (ps : List (Nat × Nat)) (x : Nat) : (outs ps x).length ≤ ps.length := by
  unfold outs
  rw [List.length_map]
  exact List.length_filter_le _ _
inductive NPath (ps : List (Nat × Nat)) (s : Nat) : Nat → Prop where
  | base : NPath ps s s
  | step {x y : Nat} (h : NPath ps s x) (e : (x, y) ∈ ps) : NPath ps s y
def arrV (p : Nat × Nat) : List V := [natV p.1, natV p.2]
def spSpread (K : PySem.W.Frag) : Sp := fun vs H Q _ => ∃ (s n : Nat) (a : Addr) (xs : List V) (ps : List (Nat × Nat)), vs = [natV s, .ref a, natV n] ∧ s < n ∧ n ≤ 100 ∧ H a = some (.lst xs) ∧ Rows K H xs (ps.map arrV) ∧ ps.length ≤ 1000 ∧ (∀ p ∈ ps, p.1 < n ∧ p.2 < n) ∧
  ∀ H' o (fl : List Bool), Same H H' → H o = none → H' o = some (.lst (fl.map V.bl)) → fl.length = n → (∀ j, fl[j]? = some true ↔ NPath ps s j) → Q (.ref o) H'
theorem scSpread : FnScope ["start", "arrows", "size", "heads", "tail", "head", "found", "waiting", "node", "_"] ["start", "arrows", "size"] (defScope sSpread) := ⟨rfl, rfl, rfl, by decide +kernel, rfl, by decide +kernel, by decide +kernel⟩
theorem seq_at {σ : L2.St} {H : Hp} {t u : TS} {D : Ends} (h : t { D with nx := u D } σ H) : tSeq t u D σ H := h
theorem gName_seq {i : Nat} {v : V} {σ : L2.St} {H : Hp} {t u : TS} {D : Ends} (h : t { D with nx := u D } (σ.set i (some v)) H) : gName i v σ H (tSeq t u D) := h
theorem ok_spread {f : Addr} {fd : FuncData} {k : Nat} (F : Fun K "_spread" "_spread" sSpread f fd) (mr : mg "range" = none) : FnOk P w K mg base CX0 (k + 1) f fd ["start", "arrows", "size"] (spSpread K) := by
  refine F.ok scSpread (fun vs H Q E h => ?_) (fun cdv A outer s0 H vs Q E hr h => ?_)
  · obtain ⟨s, n, a, xs, ps, rfl, _⟩ := h
    rfl
  · obtain ⟨s, n, a, xs, ps, rfl, hs, n100, ha, hR, p1000, hlt, q⟩ := h
    refine ⟨_, pss_cons (ps_setLc (i := 3) (own := [("_", 9)]) (g := gName 9) (tt := tYes) rfl scSpread.nd rfl rfl (sw_true rfl rfl rfl (by decide +kernel)) (pi_range1 rfl mr (pa_cons (pv 2) pa_nil)) (blkOk_by (N := ["start", "arrows", "size", "heads", "tail", "head", "found", "waiting", "node", "_"]) (sc := defScope sSpread) (by decide +kernel)) (fun _ _ _ _ _ => pg_name (i := 9) scSpread.nd rfl (Or.inl rfl)) (fun _ _ _ _ _ => pts_nil) (fun _ _ _ _ _ => pe_lst pa_nil))
      (pss_cons (ps_for PassesOwn.never rfl (pi_list (pv 1)) (pg_tup rfl (pgs_cons (pg_name (i := 4) scSpread.nd rfl (Or.inl rfl)) (pgs_cons (pg_name (i := 5) scSpread.nd rfl (Or.inl rfl)) pgs_nil)))
        (pss_one (ps_expr (pe_bm PySem.F.plainAttrs_list PySem.F.slot_list_append PySem.F.type_list_append mt_append (pe_ix ix_list (pv 3) (pv 4) (fun _ _ => rfl)) (pa_cons (pv 5) pa_nil)))))
      (pss_cons (ps_setLc (i := 6) (own := [("_", 9)]) (g := gName 9) (tt := tYes) rfl scSpread.nd rfl rfl (sw_true rfl rfl rfl (by decide +kernel)) (pi_range1 rfl mr (pa_cons (pv 2) pa_nil)) (blkOk_by (N := ["start", "arrows", "size", "heads", "tail", "head", "found", "waiting", "node", "_"]) (sc := defScope sSpread) (by decide +kernel)) (fun _ _ _ _ _ => pg_name (i := 9) scSpread.nd rfl (Or.inl rfl)) (fun _ _ _ _ _ => pts_nil) (fun _ _ _ _ _ => pe_bl))
      (pss_cons (ps_asg pe_bl (pg_sub (pv 6) (pv 0) set_list))
      (pss_cons (ps_set (i := 7) scSpread.nd rfl (.inl rfl) (pe_lst (pa_cons (pv 0) pa_nil)))
      (pss_cons (ps_while PassesOwn.never (pt_truth (pv 7) (by intro _; rfl))
        (pss_cons (ps_set (i := 8) scSpread.nd rfl (.inl rfl) (pe_bm0 PySem.F.plainAttrs_list PySem.F.slot_list_pop PySem.F.type_list_pop mt_pop (pv 7)))
        (pss_one (ps_for PassesOwn.never rfl (pi_list (pe_ix ix_list (pv 3) (pv 8) (fun _ _ => rfl))) (pg_name (i := 5) scSpread.nd rfl (.inl rfl))
          (pss_one (ps_if (pt_not (pt_val (pe_ix ix_list (pv 6) (pv 5) (fun _ _ => rfl))))
            (pss_cons (ps_asg pe_bl (pg_sub (pv 6) (pv 5) set_list))
            (pss_one (ps_expr (pe_bm PySem.F.plainAttrs_list PySem.F.slot_list_append PySem.F.type_list_append mt_append (pv 7) (pa_cons (pv 5) pa_nil))))) pss_nil))))))
      (pss_one (ps_ret (pv 6)))))))), ?_⟩
    have lx := hR.len
    rw [List.length_map] at lx
    refine ⟨_, rfl, (n : Int), rfl, by omega, by omega, fun D nD => ?_⟩
    refine lc_range (lo := 0) (n := (n : Int).toNat) (fun i G => ∃ as : List Addr, Same H G ∧ G D = some (.lst (as.map V.ref)) ∧ as.length = i ∧ Heads G as (fun _ => []) ∧ ∀ c ∈ as, H c = none ∧ c ≠ D) ⟨[], same_upd nD, upd_same, rfl, ⟨List.nodup_nil, fun j c e => by simp at e⟩, fun c hc => by cases hc⟩ ?_ ?_
    · rintro i G hi ⟨as, sm, hd, la, hh, hf⟩
      refine ⟨rfl, ?_⟩
      refine yesT ?_
      refine ⟨Nat.zero_le _, fun o no => ?_⟩
      have s2 := same_upd (o := .lst []) no
      have nDo : D ≠ o := ne_of_none hd no
      refine ⟨_, s2 _ _ hd, szlt (by rw [List.length_map]; omega), as ++ [o], same_mut (sm.trans s2) nD, by rw [upd_same, List.map_append]; rfl, by rw [List.length_append, la]; rfl, ⟨?_, fun j c e => ?_⟩, fun c hc => ?_⟩
      · rw [List.nodup_append]
        refine ⟨hh.nd, by simp, fun c hc d hd2 => ?_⟩
        rw [List.mem_singleton.mp hd2]
        obtain ⟨j, hj⟩ := List.mem_iff_getElem?.mp hc
        exact ne_of_none (hh.at_ j c hj) no
      · by_cases hj : j < as.length
        · rw [List.getElem?_append_left hj] at e
          have hc := List.mem_of_getElem? e
          rw [upd_ne (hf c hc).2, s2 _ _ (hh.at_ j c e)]
        · rw [List.getElem?_append_right (by omega)] at e
          have e2 : c = o := by
            have := List.mem_of_getElem? e
            exact List.mem_singleton.mp this
          rw [e2, upd_ne nDo.symm, upd_same]
          rfl
      · rcases List.mem_append.mp hc with h | h
        · exact hf c h
        · rw [List.mem_singleton.mp h]
          exact ⟨sm.free no, nDo.symm⟩
    rintro G ⟨as, sm, hd, la, hh, hf⟩
    have la : as.length = n := by omega
    have hasx : ∀ j, j < n → ∃ c, as[j]? = some c := fun j hj => ⟨_, List.getElem?_eq_getElem (by omega)⟩
    refine ⟨_, rfl, a, rfl, ⟨_, sq (sm _ _ ha)⟩, for_list (K := K) (a := a) (xs := xs) (fun i σ G2 => ∃ z4 z5 : Option V, σ = [some (natV s), some (.ref a), some (natV n), some (.ref D), z4, z5, none, none, none, none] ∧ Same H G2 ∧ G2 D = some (.lst (as.map V.ref)) ∧ Heads G2 as (outs (ps.take i))) ⟨none, none, rfl, sm, hd, hh⟩ (fun i σ G2 _ ⟨_, _, _, e, _⟩ => sq (e _ _ ha)) ?_ ?_⟩
    · rintro i v σ G2 hi ⟨z4, z5, rfl, sm2, hd2, hh2⟩
      obtain ⟨tt, rw_, rfl, hrow, hri⟩ := hR.at hi
      rw [List.getElem?_map] at hri
      obtain ⟨p, hp, rfl⟩ := Option.map_eq_some_iff.mp hri
      obtain ⟨c, hc⟩ := hasx p.1 (hlt p (List.mem_of_getElem? hp)).1
      have hcm := hf c (List.mem_of_getElem? hc)
      have lo := outs_len (ps.take i) p.1
      rw [List.length_take] at lo
      refine ⟨tt, _, rfl, Same.sqt sm2 hrow, rfl, _, _, rfl, _, _, rfl, rfl, ?_⟩
      refine ⟨_, rfl, _, rfl, D, _, (p.1 : Int), .ref c, rfl, rfl, sq hd2, atI_nat (by rw [List.getElem?_map, hc]; rfl), .inl ⟨rfl, _, sq (hh2.at_ _ _ hc)⟩, _, rfl, c, _, _, rfl, rfl, hh2.at_ _ _ hc, szlt (by rw [List.length_map]; omega), ?_⟩
      refine ⟨_, _, rfl, same_mut sm2 hcm.1, by rw [upd_ne hcm.2.symm]; exact hd2, ?_⟩
      rw [show outs (ps.take (i + 1)) = _ from funext (outs_snoc hp)]
      exact hh2.put hc
    rintro σ G2 ⟨z4, z5, rfl, sm2, hd2, hh2⟩
    rw [lx, List.take_length] at hh2
    refine ⟨_, rfl, (n : Int), rfl, by omega, by omega, fun D6 nD6 => ?_⟩
    refine lc_range (lo := 0) (n := (n : Int).toNat) (fun i G => Same G2 G ∧ G D6 = some (.lst ((List.replicate i false).map V.bl))) ⟨same_upd nD6, upd_same⟩ ?_ ?_
    · rintro i G hi ⟨gs, hd6⟩
      refine ⟨rfl, ?_⟩
      refine yesT ?_
      refine ⟨_, hd6, szlt (by rw [List.length_map, List.length_replicate]; omega), same_mut gs nD6, ?_⟩
      rw [upd_same, List.replicate_succ', List.map_append]
      rfl
    rintro G3 ⟨s3, hd6⟩
    rw [show (n : Int).toNat = n by omega] at hd6
    have n6 : H D6 = none := sm2.free nD6
    have ne6 : D ≠ D6 := ne_of_none hd2 nD6
    have nas6 : ∀ c ∈ as, c ≠ D6 := fun c hc => by
      obtain ⟨j, hj⟩ := List.mem_iff_getElem?.mp hc
      exact ne_of_none (hh2.at_ j c hj) nD6
    refine ⟨_, rfl, _, rfl, D6, _, (s : Int), s, rfl, rfl, hd6, by unfold ixN; rw [if_pos (by omega), if_pos (by rw [List.length_map, List.length_replicate]; omega)]; rfl, ?_⟩
    have s4 : Same H _ := same_mut (o := .lst (((List.replicate n false).map V.bl).set s (.bl true))) (sm2.trans s3) n6
    refine ⟨_, rfl, by show 1 ≤ sizeLine; decide, fun W nW => ?_⟩
    have s5 := same_upd (o := .lst [natV s]) nW
    have nW0 : H W = none := s4.free nW
    have eD4 := (upd_ne (H := G3) (o := .lst (((List.replicate n false).map V.bl).set s (.bl true))) ne6).trans (s3 _ _ hd2)
    have hD5 := s5 _ _ eD4
    have hh5 := ((hh2.mono s3).upd (ho := .lst (((List.replicate n false).map V.bl).set s (.bl true))) nas6).mono s5
    have h65 := s5 _ _ (upd_same (H := G3) (a := D6) (o := .lst (((List.replicate n false).map V.bl).set s (.bl true))))
    have hW5 := upd_same (H := upd G3 D6 (.lst (((List.replicate n false).map V.bl).set s (.bl true)))) (a := W) (o := .lst [natV s])
    have sH5 := s4.trans s5
    have nW6 : W ≠ D6 := (ne_of_none upd_same nW).symm
    have nWD : W ≠ D := (ne_of_none eD4 nW).symm
    have nasW : ∀ c ∈ as, c ≠ W := fun c hc => by
      obtain ⟨j, hj⟩ := List.mem_iff_getElem?.mp hc
      exact ne_of_none (((hh2.mono s3).upd (ho := .lst (((List.replicate n false).map V.bl).set s (.bl true))) nas6).at_ j c hj) nW
    generalize upd (upd G3 D6 (.lst (((List.replicate n false).map V.bl).set s (.bl true)))) W (.lst [natV s]) = G5 at *
    rw [← List.map_set] at h65
    have hss : (List.replicate n false).length = n := List.length_replicate
    have c0 : cntF ((List.replicate n false).set s true) + 1 ≤ n := by
      have e1 : (List.replicate n false)[s]? = some false := by rw [List.getElem?_replicate, if_pos hs]
      have e2 := cntF_set e1
      have e3 : cntF (List.replicate n false) ≤ n := by
        unfold cntF
        have := List.countP_le_length (p := fun x : Bool => !x) (l := List.replicate n false)
        rw [hss] at this
        exact this
      omega
    show Ends.nx _ _ _
    dsimp only
    refine seq_at ?_
    show tWhile _ _ _ _ _
    refine while_by (fun σ G => ∃ (z5 z8 : Option V) (fl : List Bool) (ws : List Nat), σ = [some (natV s), some (.ref a), some (natV n), some (.ref D), z4, z5, some (.ref D6), some (.ref W), z8, none] ∧ Same H G ∧ G D = some (.lst (as.map V.ref)) ∧ Heads G as (outs ps) ∧ G D6 = some (.lst (fl.map V.bl)) ∧ G W = some (.lst (ws.map natV)) ∧ fl.length = n ∧ (∀ w ∈ ws, fl[w]? = some true) ∧ fl[s]? = some true ∧ (∀ j, fl[j]? = some true → NPath ps s j) ∧ (∀ x y, (x, y) ∈ ps → fl[x]? = some true → x ∉ ws → fl[y]? = some true) ∧ ws.length + cntF fl ≤ n)
      (fun σ G => match G D6, G W with | some (.lst fl), some (.lst ws) => 2 * fl.countP isFV + ws.length | _, _ => 0) ⟨z5, none, (List.replicate n false).set s true, [s], rfl, sH5, hD5, hh5, h65, hW5, by rw [List.length_set]; exact hss, ?_, ?_, ?_, ?_, by show 1 + _ ≤ n; omega⟩ ?_ ?_
    · intro w hw
      rw [List.mem_singleton.mp hw]
      exact set_get.mpr (.inl ⟨rfl, by rw [hss]; exact hs⟩)
    · exact set_get.mpr (.inl ⟨rfl, by rw [hss]; exact hs⟩)
    · intro j hj
      rcases set_get.mp hj with ⟨e, _⟩ | e
      · rw [e]
        exact .base
      · rw [List.getElem?_replicate] at e
        split at e <;> cases e
    · intro x y _ hx hn
      rcases set_get.mp hx with ⟨e, _⟩ | e
      · exact absurd (List.mem_singleton.mpr e) hn
      · rw [List.getElem?_replicate] at e
        split at e <;> cases e
    · rintro σ G ⟨z5, z8, fl, ws, rfl, smG, hDG, hhG, h6G, hWG, hfl, hws, hst, hsd, hcl, hcn⟩
      have eM : (match G D6, G W with | some (.lst fl), some (.lst ws) => 2 * fl.countP isFV + ws.length | _, _ => 0) = 2 * cntF fl + ws.length := by
        rw [h6G, hWG]
        show 2 * (fl.map V.bl).countP isFV + (ws.map natV).length = _
        rw [cntV, List.length_map]
      rcases List.eq_nil_or_concat ws with e0 | ⟨w0, x, e0⟩
      · subst e0
        refine ⟨_, rfl, false, .inl ⟨_, sq hWG, rfl⟩, ?_⟩
        refine iteF ?_
        refine ⟨_, rfl, q G D6 fl smG n6 h6G hfl fun j => ⟨hsd j, fun hp => ?_⟩⟩
        induction hp with
        | base => exact hst
        | step _ e ih => exact hcl _ _ e ih (by simp)
      · rw [List.concat_eq_append] at e0
        subst e0
        have hxt := hws x (List.mem_append.mpr (.inr (List.mem_singleton.mpr rfl)))
        have hxn : x < n := by
          have := (List.getElem?_eq_some_iff.mp hxt).1
          omega
        obtain ⟨c, hc⟩ := hasx x hxn
        have hcm := List.mem_of_getElem? hc
        refine ⟨_, rfl, true, .inl ⟨_, sq hWG, by simp⟩, ?_⟩
        refine iteT ?_
        refine ⟨_, rfl, .inl ⟨rfl, _, sq hWG⟩, W, _, natV x, rfl, rfl, hWG, by simp, ?_⟩
        have ed : ((w0 ++ [x]).map natV).dropLast = w0.map natV := by simp
        rw [ed]
        have hh1 : Heads (upd G W (.lst (w0.map natV))) as (outs ps) := hhG.upd nasW
        have hD1 : (upd G W (.lst (w0.map natV))) D = some (.lst (as.map V.ref)) := by rw [upd_ne nWD.symm]; exact hDG
        have h61 : (upd G W (.lst (w0.map natV))) D6 = some (.lst (fl.map V.bl)) := by rw [upd_ne nW6.symm]; exact h6G
        have sm1 : Same H (upd G W (.lst (w0.map natV))) := same_mut smG nW0
        refine ⟨_, rfl, _, rfl, D, _, (x : Int), .ref c, rfl, rfl, sq hD1, atI_nat (by rw [List.getElem?_map, hc]; rfl), c, rfl, ⟨_, sq (hh1.at_ _ _ hc)⟩, ?_⟩
        refine for_list (K := K) (a := c) (xs := (outs ps x).map natV) (fun i σ G' => ∃ (z5 : Option V) (fl' : List Bool) (ws' : List Nat), σ = [some (natV s), some (.ref a), some (natV n), some (.ref D), z4, z5, some (.ref D6), some (.ref W), some (natV x), none] ∧ Same H G' ∧ G' D = some (.lst (as.map V.ref)) ∧ Heads G' as (outs ps) ∧ G' D6 = some (.lst (fl'.map V.bl)) ∧ G' W = some (.lst (ws'.map natV)) ∧ fl'.length = n ∧ (∀ w ∈ ws', fl'[w]? = some true) ∧ fl'[s]? = some true ∧ (∀ j, fl'[j]? = some true → NPath ps s j) ∧ (∀ u y, (u, y) ∈ ps → fl'[u]? = some true → u ∉ ws' → (u ≠ x ∨ y ∈ (outs ps x).take i) → fl'[y]? = some true) ∧ ws'.length + cntF fl' ≤ n ∧ 2 * cntF fl' + ws'.length + 1 ≤ 2 * cntF fl + (w0 ++ [x]).length ∧ fl'[x]? = some true)
          ⟨z5, fl, w0, rfl, sm1, hD1, hh1, h61, upd_same, hfl, fun w hw => hws w (List.mem_append.mpr (.inl hw)), hst, hsd, ?_, ?_, ?_, hxt⟩ (fun i σ G' _ ⟨_, _, _, _, _, _, hh', _⟩ => sq (hh'.at_ _ _ hc)) ?_ ?_
        · intro u y e hu hnw hor
          rcases hor with hne | hm
          · refine hcl u y e hu fun hm => ?_
            rcases List.mem_append.mp hm with h | h
            · exact hnw h
            · exact hne (List.mem_singleton.mp h)
          · rw [List.take_zero] at hm
            cases hm
        · rw [List.length_append] at hcn
          have : [x].length = 1 := rfl
          omega
        · rw [List.length_append]
          show _ ≤ 2 * cntF fl + (w0.length + 1)
          omega
        · rintro i v σ G' hi ⟨z5', fl', ws', rfl, sm', hD', hh', h6', hW', hl', hw', hs', hd', hc', hn', hm', hx'⟩
          rw [List.getElem?_map] at hi
          obtain ⟨h, hh0, rfl⟩ := Option.map_eq_some_iff.mp hi
          have hps : (x, h) ∈ ps := mem_outs.mp (List.mem_of_getElem? hh0)
          have hhn := (hlt _ hps).2
          have hhn : h < n := hhn
          obtain ⟨b, hb⟩ : ∃ b, fl'[h]? = some b := ⟨_, List.getElem?_eq_getElem (by omega)⟩
          refine ⟨_, rfl, _, rfl, D6, _, (h : Int), .bl b, rfl, rfl, sq h6', atI_nat (by rw [List.getElem?_map, hb]; rfl), _, rfl, ?_⟩
          cases b with
          | true =>
            refine iteF ?_
            refine ⟨_, fl', ws', rfl, sm', hD', hh', h6', hW', hl', hw', hs', hd', fun u y e hu hnw hor => ?_, hn', hm', hx'⟩
            rcases hor with hne | hm
            · exact hc' u y e hu hnw (.inl hne)
            · rw [List.take_add_one, hh0] at hm
              rcases List.mem_append.mp hm with hm | hm
              · exact hc' u y e hu hnw (.inr hm)
              · have e2 : y = h := by simpa using hm
                rw [e2]
                exact hb
          | false =>
            refine iteT ?_
            refine ⟨_, rfl, _, rfl, D6, _, (h : Int), h, rfl, rfl, h6', by unfold ixN; rw [if_pos (by omega), if_pos (by rw [List.length_map]; omega)]; rfl, ?_⟩
            have hc2 := cntF_set hb
            have hW2 : (upd G' D6 (.lst ((fl'.map V.bl).set h (.bl true)))) W = some (.lst (ws'.map natV)) := by rw [upd_ne nW6]; exact hW'
            refine ⟨_, rfl, .inl ⟨rfl, _, sq hW2⟩, _, rfl, W, _, _, rfl, rfl, hW2, szlt (by rw [List.length_map]; omega), ?_⟩
            refine ⟨_, fl'.set h true, ws' ++ [h], rfl, same_mut (same_mut sm' n6) nW0, by rw [upd_ne nWD.symm, upd_ne ne6]; exact hD', (hh'.upd nas6).upd nasW, by rw [upd_ne nW6.symm, upd_same, List.map_set], by rw [upd_same, List.map_append]; rfl, by rw [List.length_set]; exact hl', fun w hw => ?_, set_get.mpr (.inr hs'), fun j hj => ?_, fun u y e hu hnw hor => ?_, ?_, ?_, set_get.mpr (.inr hx')⟩
            · rcases List.mem_append.mp hw with hw | hw
              · exact set_get.mpr (.inr (hw' w hw))
              · rw [List.mem_singleton.mp hw]
                exact set_get.mpr (.inl ⟨rfl, by omega⟩)
            · rcases set_get.mp hj with ⟨e, _⟩ | e
              · rw [e]
                exact .step (hd' x hx') hps
              · exact hd' j e
            · have hnw1 : u ∉ ws' := fun z => hnw (List.mem_append.mpr (.inl z))
              have hnw2 : u ≠ h := fun z => hnw (List.mem_append.mpr (.inr (List.mem_singleton.mpr z)))
              have hu' : fl'[u]? = some true := by
                rcases set_get.mp hu with ⟨e, _⟩ | e
                · exact absurd e hnw2
                · exact e
              rcases hor with hne | hm
              · exact set_get.mpr (.inr (hc' u y e hu' hnw1 (.inl hne)))
              · rw [List.take_add_one, hh0] at hm
                rcases List.mem_append.mp hm with hm | hm
                · exact set_get.mpr (.inr (hc' u y e hu' hnw1 (.inr hm)))
                · have e2 : y = h := by simpa using hm
                  rw [e2]
                  exact set_get.mpr (.inl ⟨rfl, by omega⟩)
            · rw [List.length_append]
              show ws'.length + 1 + _ ≤ n
              omega
            · rw [List.length_append]
              show 2 * _ + (ws'.length + 1) + 1 ≤ _
              omega
        · rintro σ G' ⟨z5', fl', ws', rfl, sm', hD', hh', h6', hW', hl', hw', hs', hd', hc', hn', hm', hx'⟩
          refine ⟨⟨z5', some (natV x), fl', ws', rfl, sm', hD', hh', h6', hW', hl', hw', hs', hd', fun u y e hu hnw => hc' u y e hu hnw ?_, hn'⟩, ?_⟩
          · by_cases hux : u = x
            · right
              rw [hux] at e
              rw [List.length_map, List.take_length]
              exact mem_outs.mpr e
            · exact .inl hux
          · rw [eM, h6', hW']
            show 2 * (fl'.map V.bl).countP isFV + (ws'.map natV).length < _
            rw [cntV, List.length_map]
            omega
    · rintro σ G Q' Q'' hq ⟨v, hv, k, ht, r⟩
      exact ⟨v, hv, k, ht, hq _ _ r⟩
/-! ### closes, _turned -/
def closesB (c : Ct) (x : Bool) : Bool := match c.mv with
  | none => true
  | some _ => decide (c.whn = makeS) == x
def spCloses (K : PySem.W.Frag) : Sp := fun vs H Q _ => ∃ (t : Addr) (c : Ct) (x : Bool), vs = [.ref t, .bl x] ∧ SqT K H t c.row ∧ Q (.bl (closesB c x)) H
theorem scCloses : FnScope ["contact", "on", "_", "mover", "when"] ["contact", "on"] (defScope sCloses) := ⟨rfl, rfl, rfl, by decide +kernel, rfl, by decide +kernel, by decide +kernel⟩
theorem ok_closes {f : Addr} {fd : FuncData} {k : Nat} (F : Fun K "closes" "closes" sCloses f fd) : FnOk P w K mg base CX0 (k + 1) f fd ["contact", "on"] (spCloses K) := by
  refine F.ok scCloses (fun vs H Q E h => ?_) (fun cdv A outer s H vs Q E hr h => ?_)
  · obtain ⟨t, c, x, rfl, _⟩ := h
    rfl
  · obtain ⟨t, c, x, rfl, ht, q⟩ := h
    refine ⟨_, pss_cons (ps_asg (pv 0) (pg_tup rfl (pgs_cons (pg_name (i := 2) scCloses.nd rfl (Or.inl rfl)) (pgs_cons (pg_name (i := 2) scCloses.nd rfl (Or.inl rfl)) (pgs_cons (pg_name (i := 3) scCloses.nd rfl (Or.inl rfl)) (pgs_cons (pg_name (i := 4) scCloses.nd rfl (Or.inl rfl)) (pgs_cons (pg_name (i := 2) scCloses.nd rfl (Or.inl rfl)) pgs_nil)))))))
      (pss_one (ps_ret (pe_or (pe_cmpR op_isN (pv 3) pe_non (nomark _)) (pe_one (pe_cmpR op_eq (pe_cmpR op_eq (pv 4) pe_str (nomark _)) (pv 1) (nomark _)))))), ?_⟩
    refine ⟨_, rfl, t, _, rfl, ht, rfl, _, _, rfl, _, _, rfl, _, _, rfl, _, _, rfl, _, _, rfl, rfl, ?_⟩
    refine ⟨_, rfl, rfl, _, rfl, ?_⟩
    cases e : c.mv with
    | none =>
      have ev : closesB c x = true := by
        unfold closesB
        rw [e]
      rw [ev] at q
      refine iteT ?_
      exact q
    | some m =>
      have ev : closesB c x = (decide (c.whn = makeS) == x) := by
        unfold closesB
        rw [e]
      rw [ev] at q
      refine iteF ?_
      refine ⟨_, rfl, rfl, _, rfl, rfl, ?_⟩
      have ez : decide (V.bl (decide (V.str c.whn = V.str "make")) = V.bl x) = (decide (c.whn = makeS) == x) := by
        have e1 : decide (V.str c.whn = V.str "make") = decide (c.whn = makeS) := decide_eq_decide.mpr ⟨fun h => V.str.inj h, fun h => congrArg V.str h⟩
        rw [e1]
        generalize decide (c.whn = makeS) = y
        cases x <;> cases y <;> decide
      rw [ez]
      exact q
def spTurned (K : PySem.W.Frag) : Sp := fun vs H Q _ => ∃ (a : Addr) (xs : List V) (ps : List (Nat × Nat)), vs = [.ref a] ∧ H a = some (.lst xs) ∧ Rows K H xs (ps.map arrV) ∧ ps.length ≤ 1000 ∧
  ∀ H' o ys, Same H H' → H o = none → H' o = some (.lst ys) → Rows K H' ys ((ps.map Prod.swap).map arrV) → Q (.ref o) H'
theorem scTurned : FnScope ["arrows", "tail", "head"] ["arrows"] (defScope sTurned) := ⟨rfl, rfl, rfl, by decide +kernel, rfl, by decide +kernel, by decide +kernel⟩
theorem ok_turned {f : Addr} {fd : FuncData} {k : Nat} (F : Fun K "_turned" "_turned" sTurned f fd) : FnOk P w K mg base CX0 (k + 1) f fd ["arrows"] (spTurned K) := by
  refine F.ok scTurned (fun vs H Q E h => ?_) (fun cdv A outer s H vs Q E hr h => ?_)
  · obtain ⟨a, xs, ps, rfl, _⟩ := h
    rfl
  · obtain ⟨a, xs, ps, rfl, ha, hR, p1, q⟩ := h
    have lx := hR.len
    rw [List.length_map] at lx
    refine ⟨_, pss_one (ps_ret (pe_lc (own := [("tail", 1), ("head", 2)]) (g := gTup K 2 (gCons (gName 1) (gCons (gName 2) gNil))) (tt := tYes) rfl scTurned.nd (pi_list (pv 0)) (blkOk_by (N := ["arrows", "tail", "head"]) (sc := defScope sTurned) (by decide +kernel))
      (fun _ _ _ _ _ => pg_tup rfl (pgs_cons (pg_name (i := 1) scTurned.nd rfl (Or.inl rfl)) (pgs_cons (pg_name (i := 2) scTurned.nd rfl (Or.inl rfl)) pgs_nil))) (fun _ _ _ _ _ => pts_nil) (fun _ _ _ _ _ => pe_tup (pa_cons (pv 2) (pa_cons (pv 1) pa_nil))))), ?_⟩
    refine ⟨_, rfl, a, rfl, ⟨_, sq ha⟩, fun D nD => ?_⟩
    refine lc_list (K := K) (a := a) (xs := xs) (fun i G => ∃ ys, Same H G ∧ G D = some (.lst ys) ∧ Rows K G ys (((ps.take i).map Prod.swap).map arrV)) ⟨[], same_upd nD, upd_same, True.intro⟩ (fun i G _ ⟨_, h, _⟩ => sq (h _ _ ha)) ?_ ?_
    · rintro i v G hi ⟨ys, sm, hd, hY⟩
      obtain ⟨tt, rw_, rfl, hrow, hri⟩ := hR.at hi
      rw [List.getElem?_map] at hri
      obtain ⟨p, hp, rfl⟩ := Option.map_eq_some_iff.mp hri
      have ly := hY.len
      rw [List.length_map, List.length_map, List.length_take] at ly
      refine ⟨tt, _, rfl, Same.sqt sm hrow, rfl, _, _, rfl, _, _, rfl, rfl, rfl, ?_⟩
      refine yesT ?_
      refine ⟨_, rfl, _, rfl, by show 2 ≤ sizeLine; decide, fun t nt => ?_⟩
      have s2 := same_upd (o := .tup [natV p.2, natV p.1]) nt
      have hd2 := s2 _ _ hd
      have ne : D ≠ t := ne_of_none hd nt
      refine ⟨_, hd2, szlt (by omega), ys ++ [.ref t], same_mut (sm.trans s2) nD, upd_same, ?_⟩
      rw [List.take_add_one, hp, List.map_append, List.map_append]
      refine Rows.snoc ?_ (Rows.updl hd2 (hY.mono s2))
      exact .inl (.inl (by rw [upd_ne ne.symm]; exact upd_same))
    · rintro G ⟨ys, sm, hd, hY⟩
      rw [lx, List.take_length] at hY
      exact q G D ys sm nD hd hY
/-! ### name = {k: v for ..}, the name a local -/
section
variable {X : Cx}
theorem ps_setDc {i : Nat} {y : Str} {py : Pos} {kx vx tg iter : Expr} {ifs : List Expr} {scope : Scope} {own : List (Str × Nat)} {pos spos : Pos} {wi : TI} {g : TG} {tt : TT} {tk tv : TE} (hc : X.calm = true) (hN : X.N.Nodup) (hy : X.N[i]? = some y) (hyl : X.env.scope.names.lookup y = some .local)
    (hsw : swapsWith (.DictComp kx vx [⟨tg, iter, ifs, 0⟩] scope pos) (some (.Name y py)) spos.line X.env = pure true) (hi : PI X tg iter wi) (ok : BlkOk X.N X.env.scope scope own)
    (hg : ∀ (s : Shared) (H : Hp) (C : Addr) (cl : List (Str × Addr)) (fp : List Addr), PG (X.blk s H scope (compEnvC scope cl C X.env) fp) tg g) (ht : ∀ (s : Shared) (H : Hp) (C : Addr) (cl : List (Str × Addr)) (fp : List Addr), PTs (X.blk s H scope (compEnvC scope cl C X.env) fp) ifs tt)
    (hk : ∀ (s : Shared) (H : Hp) (C : Addr) (cl : List (Str × Addr)) (fp : List Addr), PE (X.blk s H scope (compEnvC scope cl C X.env) fp) kx tk)
    (he : ∀ (s : Shared) (H : Hp) (C : Addr) (cl : List (Str × Addr)) (fp : List Addr), PE (X.blk s H scope (compEnvC scope cl C X.env) fp) vx tv) (hs : ∀ x, foldedSetIterable iter X.env x = pure x := by intro _; rfl) :
    PS X (.Assign [.Name y py] (.DictComp kx vx [⟨tg, iter, ifs, 0⟩] scope pos) spos) (tAsg (tDc wi g tt tk tv (own.map (·.2))) (gName i)) := by
  refine ⟨fun pins s σ H D I h => ?_⟩
  rw [exec_Assign_Name_used _ _ _ _ hsw]
  refine wpAny_bind (wpAny_standAt (wpAny_bind ?_))
  show wpAny _ X.A (do let _ ← comprehension (.DictComp kx vx [⟨tg, iter, ifs, 0⟩] scope pos) scope X.env (firstIterPos [⟨tg, iter, ifs, 0⟩] pos) newDict false (eval iter X.env) (some (assign (.Name y py) X.env))) _ _ s
  have h : tDc wi g tt tk tv (own.map (·.2)) σ H (fun x H1 => gName i x σ H1 D.nx) := h
  refine wpAny_bind (thn (dc_core (Qf := fun _ s' => SP X pins D .next s') hc hN I hi ok hg ht hk he hs h fun L C s' m H' I' q hn f => ?_) fun _ s' hq => wpAny_pure (wpAny_pure hq))
  show wpAny _ _ (assign (.Name y py) X.env (.ref L)) _ _ _
  refine wpAny_assign_Name (store_ok2 (v := V.ref L) I' hN hy (.inl hyl) rfl (fun s2 I2 ⟨a, sb, ha⟩ => ?_) (.inr hyl))
  obtain ⟨f0, f1, f2, f3, f4, f5⟩ := f
  have haC : C ≠ a := by
    rcases ha with z | z
    · rw [z]; exact f1
    · exact fun e => f4 y a z e.symm
  refine ⟨m, hn.sameBut sb haC, fun h3 sb3 => ?_⟩
  exact ⟨_, H', I2.turned (t' := s2.toks) (fun b o hb e => (sb3.2 b hb).trans e) f0 f1 f3 f4 f5, q⟩
theorem sw_trueD {kx vx : Expr} {gs : List Comprehension} {scope : Scope} {pos py : Pos} {y : Str} {l : Nat} {env : Env} (hk : env.scope.kind = .function) (hy : env.scope.names.lookup y = some .local) (hl : (py.line == pos.line) = true)
    (ha : (scope.names.any fun (n, k) => n == y && (k == .local || k == .cell)) = false) : swapsWith (.DictComp kx vx gs scope pos) (some (.Name y py)) l env = pure true := by
  have ky : env.kindOf y = some .local := hy
  have hb : env.blockKind = .function := by unfold Env.blockKind; rw [hk]; rfl
  unfold swapsWith
  simp only [hb, ky, ha, Expr.pos, hl]
  rfl
/-- d.get(y), y may be None (d's keys ints and texts) -/
def DGetN (H : Hp) (a : Addr) (y r : V) : Prop := (∃ o, DGet H a y o ∧ r = o.getD .non) ∨ ∃ kvs, y = .non ∧ Rd H a (.dK kvs) ∧ r = .non
def tDGetN (td ty : TE) : TE := fun σ H Q => td σ H fun x H1 => ∃ a, x = .ref a ∧ IsD H1 a ∧ ty σ H1 fun y H2 => ∃ r, DGetN H2 a y r ∧ Q r H2
theorem d_getN {pins : List (Addr × Obj)} {σ : L2.St} {H : Hp} {s : Shared} {A : Around} {E : Value → Shared → Prop} {a : Addr} {kvs : List (Key × V)} {Q : Value → Shared → Prop} (I : Inv X pins σ H s) (e : Rd H a (.dK kvs)) (h : ∀ s', Inv X pins σ H s' → Q .none s') :
    wpAny (model X.prog X.w) A (call (.builtin "dict.get") [.ref a, .none]) Q E s := by
  obtain ⟨z, hd, vs, rel, dd⟩ := dk_rd I.hok e
  obtain ⟨f, hm, hf⟩ := none_map dd
  refine call_meetsIn PySem.F.slot_dict_get dd.typeIs PySem.F.entry_dict_get (PySem.F.args_dict_get_2 _ _) (meets_dict_get (noneKind X.prog X.w) a (show (noneKind X.prog X.w).is none .none = true from rfl) hd) ⟨_, hm, ?_⟩
  rw [hf]
  exact h _ (I.tok _)
theorem pe_dgetN {o e : Expr} {apos cpos : Pos} {td ty : TE} (hu : X.A.units + 1 < cLine) (ho : PE X o td) (he : PE X e ty) (m : M1 X o "get" apos e cpos) : PE X (.Call (.Attribute o "get" apos) [e] [] cpos) (tDGetN td ty) := by
  refine ⟨fun pins s σ H Q I h => ?_⟩
  refine wpAny_Call_method m.base m.few m.line PySem.F.plainAttrs_dict PySem.F.slot_dict_get PySem.F.type_dict_get (thn (ho.run pins s σ H _ I h) fun u s1 ⟨x, H1, I1, rx, a, ex, d, q1⟩ => ?_)
  subst ex
  obtain rfl : u = Value.ref a := rx
  obtain ⟨t1, t2, _⟩ := isD_at I1 d
  refine ⟨t1, t2, ?_⟩
  rw [m.trees]
  refine Calls.callWith_builtin rfl (Calls.evalArgs_plain (Calls.spliced_cons (thn (he.run pins s1 σ H1 _ I1 q1) fun iv s2 ⟨y, H2, I2, ry, q2⟩ => Calls.spliced_nil ?_)))
  obtain ⟨rr, q2, q3⟩ := q2
  rcases q2 with ⟨ov, g, rfl⟩ | ⟨kvs, ey, g, rfl⟩
  · exact d_get1 hu I2 g ry fun w' s3 I3 rw' => ⟨_, H2, I3, rw', q3⟩
  · subst ey
    obtain rfl : iv = Value.none := ry
    exact d_getN I2 g fun s3 I3 => ⟨.non, H2, I3, rfl, q3⟩
end
/-! ### Net.__init__ -/
theorem dc_it {J : It} {n : Nat} {G : Hp → Prop} {Y : Nat → Hp → V → Hp → Prop} (w : Walk J n G Y) {g : TG} {tt : TT} {tk tv : TE} {vs : List Nat} {σ : L2.St} {H1 : Hp} {D : Addr} {Qd : Hp → Prop} (Pv : Nat → Hp → Prop) (h0 : Pv 0 (upd H1 D (.dK []))) (hG : ∀ i H, i ≤ n → Pv i H → G H)
    (hs : ∀ i x H H', i < n → Pv i H → Y i H x H' → g x (wipe σ vs) H' fun σ2 H2 => wipe σ2 vs = wipe σ vs ∧ tt σ2 H2 fun b H3 =>
      if b = true then tk σ2 H3 fun y H4 => tv σ2 H4 fun z H5 => ∃ kvs k, y = kV k ∧ H5 D = some (.dK kvs) ∧ kvs.length < sizeLine ∧ Pv (i + 1) (upd H5 D (.dK (putK kvs k z))) else Pv (i + 1) H3) (hd : ∀ H, Pv n H → Qd H) :
    ∃ W : Nat → Nat → Hp → Prop, (∃ m, W 0 m (upd H1 D (.dK []))) ∧ ∀ i m H, W i m H →
      (J.stop i H ∧ Qd H) ∨ (J.go i H ∧ ∃ Nx : Hp → Prop, (∀ H', Nx H' → ∃ m', m' < m ∧ W (i + 1) m' H') ∧ ∀ x H', J.yld i H x H' → g x (wipe σ vs) H' fun σ2 H2 => wipe σ2 vs = wipe σ vs ∧ tt σ2 H2 fun b H3 =>
        if b = true then tk σ2 H3 fun y H4 => tv σ2 H4 fun z H5 => ∃ kvs k, y = kV k ∧ H5 D = some (.dK kvs) ∧ kvs.length < sizeLine ∧ Nx (upd H5 D (.dK (putK kvs k z))) else Nx H3) := by
  refine ⟨fun i m H => m = n - i ∧ i ≤ n ∧ Pv i H, ⟨n, by simp, Nat.zero_le _, h0⟩, ?_⟩
  rintro i m H ⟨rfl, hi, p⟩
  have q := hG i H hi p
  by_cases hlt : i < n
  · refine .inr ⟨w.goes i H hlt q, Pv (i + 1), fun H' p' => ⟨n - (i + 1), by omega, rfl, hlt, p'⟩, fun x H' y => hs i x H H' hlt p (w.yields i H x H' hlt q y)⟩
  · have e : i = n := by omega
    subst e
    exact .inl ⟨w.stops H q, hd H p⟩
/-- a dict that tells the places of the names -/
def PosD (kvs : List (Key × V)) (zs : List Str) : Prop := ∀ z : Str, valV kvs (.inr z) = if z ∈ zs then some (natV (posS zs z)) else none
theorem posS_at {zs : List Str} (nd : zs.Nodup) {i : Nat} {z : Str} (h : zs[i]? = some z) : posS zs z = i := by
  have hm : z ∈ zs := List.mem_of_getElem? h
  obtain ⟨h1, h2⟩ := posS_ok hm
  have l1 := List.getElem?_eq_some_iff.mp h1
  have l2 := List.getElem?_eq_some_iff.mp h
  obtain ⟨q1, e1⟩ := l1
  obtain ⟨q2, e2⟩ := l2
  exact (List.getElem_inj nd).mp (e1.trans e2.symm)
theorem posS_lt {zs : List Str} {z : Str} (h : z ∈ zs) : posS zs z < zs.length := (List.getElem?_eq_some_iff.mp (posS_ok h).1).1
/-- after i turns of {name: number for number, name in enumerate(..)} -/
def PosI (kvs : List (Key × V)) (zs : List Str) (i : Nat) : Prop := kvs.length ≤ i ∧ ∀ z : Str, valV kvs (.inr z) = if z ∈ zs.take i then some (natV (posS zs z)) else none
theorem PosI.nil {zs : List Str} : PosI [] zs 0 := ⟨Nat.le_refl _, fun z => by rw [List.take_zero, if_neg (by simp)]; rfl⟩
theorem PosI.put {kvs : List (Key × V)} {zs : List Str} {i : Nat} {z : Str} (nd : zs.Nodup) (h : PosI kvs zs i) (hz : zs[i]? = some z) : PosI (putK kvs (.inr z) (natV i)) zs (i + 1) := by
  refine ⟨Nat.le_trans (length_putK _ _ _) (Nat.succ_le_succ h.1), fun y => ?_⟩
  rw [valV_put, h.2 y, List.take_add_one, hz]
  by_cases e : y = z
  · subst e
    rw [if_pos rfl, if_pos (by simp), posS_at nd hz]
  · have e1 : ¬ (Sum.inr y : Key) = .inr z := fun q => e (Sum.inr.inj q)
    rw [if_neg e1]
    have e2 : (y ∈ zs.take i ++ (some z).toList) ↔ y ∈ zs.take i := by simp [e]
    by_cases e3 : y ∈ zs.take i
    · rw [if_pos e3, if_pos (e2.mpr e3)]
    · rw [if_neg e3, if_neg (fun q => e3 (e2.mp q))]
theorem PosI.all {kvs : List (Key × V)} {zs : List Str} (h : PosI kvs zs zs.length) : PosD kvs zs := fun z => by
  rw [h.2 z, List.take_length]
def pairN (zs : List Str) (r : Sp3) : Nat × Nat := (posS zs r.one, posS zs r.oth)
theorem sqt_updl {K : PySem.W.Frag} {H : Hp} {o a : Addr} {l0 xs : List V} {ho : HO} (h : H o = some (.lst l0)) (q : SqT K H a xs) : SqT K (L2.upd H o ho) a xs := by
  rcases q with (q | ⟨u, q⟩) | q
  · exact .inl (.inl (by rw [upd_ne (ne_of q h (by intro z; cases z))]; exact q))
  · exact .inl (.inr ⟨u, by rw [upd_ne (ne_of q h (by intro z; cases z))]; exact q⟩)
  · exact .inr q
def mvI (zs : List Str) : Option Str → V
  | none => .non
  | some m => natV (posS zs m)
/-- a link: the contact, its mover's place, its ends, both ways -/
def linkV (b : Bd) (t : Addr) (c : Ct) : List V := [.ref t, mvI b.movers c.mv, natV (posS b.nodes c.one), natV (posS b.nodes c.oth), .bl (decide (c.way = bothS))]
def Links (K : PySem.W.Frag) (H : Hp) (b : Bd) : List V → List Ct → Prop
  | [], [] => True
  | v :: xs, c :: cs => (∃ u t, v = .ref u ∧ SqT K H u (linkV b t c) ∧ SqT K H t c.row) ∧ Links K H b xs cs
  | _, _ => False
theorem Links.mono {H H' : Hp} {b : Bd} (s : Same H H') : ∀ {xs : List V} {cs : List Ct}, Links K H b xs cs → Links K H' b xs cs
  | [], [], _ => True.intro
  | _ :: _, _ :: _, ⟨⟨u, t, e, h1, h2⟩, r⟩ => ⟨⟨u, t, e, Same.sqt s h1, Same.sqt s h2⟩, r.mono s⟩
theorem Links.len {H : Hp} {b : Bd} : ∀ {xs : List V} {cs : List Ct}, Links K H b xs cs → xs.length = cs.length
  | [], [], _ => rfl
  | _ :: _, _ :: _, ⟨_, r⟩ => congrArg (· + 1) r.len
theorem Links.snoc {H : Hp} {b : Bd} {u t : Addr} {c : Ct} (h1 : SqT K H u (linkV b t c)) (h2 : SqT K H t c.row) : ∀ {xs : List V} {cs : List Ct}, Links K H b xs cs → Links K H b (xs ++ [.ref u]) (cs ++ [c])
  | [], [], _ => ⟨⟨u, t, rfl, h1, h2⟩, True.intro⟩
  | _ :: _, _ :: _, ⟨e, r⟩ => ⟨e, r.snoc h1 h2⟩
theorem Links.at {H : Hp} {b : Bd} : ∀ {xs : List V} {cs : List Ct} {i : Nat} {v : V}, Links K H b xs cs → xs[i]? = some v → ∃ u t c, v = .ref u ∧ SqT K H u (linkV b t c) ∧ SqT K H t c.row ∧ cs[i]? = some c
  | [], [], _, _, _, h => by simp at h
  | _ :: _, c :: _, 0, _, ⟨⟨u, t, e, h1, h2⟩, _⟩, hi => ⟨u, t, c, by rw [← Option.some.inj hi]; exact e, h1, h2, rfl⟩
  | _ :: _, _ :: _, i + 1, _, ⟨_, r⟩, hi => Links.at (i := i) r hi
theorem Links.upd {H : Hp} {b : Bd} {o : Addr} {ho : HO} {xs0 : List V} (h0 : H o = some (.lst xs0)) : ∀ {xs : List V} {cs : List Ct}, Links K H b xs cs → Links K (L2.upd H o ho) b xs cs
  | [], [], _ => True.intro
  | _ :: _, _ :: _, ⟨⟨u, t, e, h1, h2⟩, r⟩ => ⟨⟨u, t, e, sqt_updl h0 h1, sqt_updl h0 h2⟩, r.upd h0⟩
structure NTxt (K : PySem.W.Frag) (N : Addr) : Prop where
  cl : Cls K N
  n1 : NoAttr K N "_size"
  n2 : NoAttr K N "_coils"
  n3 : NoAttr K N "_bulbs"
  n4 : NoAttr K N "_links"
def netNames : List Str := ["_size", "_coils", "_bulbs", "_links"]
structure NetFs (K : PySem.W.Frag) (H : Hp) (fs : List (Str × V)) (b : Bd) (ca ba la : Addr) (xc xb xl : List V) : Prop where
  l1 : fs.lookup ("_size" : Str) = some (natV b.nodes.length)
  l2 : fs.lookup ("_coils" : Str) = some (.ref ca)
  l3 : fs.lookup ("_bulbs" : Str) = some (.ref ba)
  l4 : fs.lookup ("_links" : Str) = some (.ref la)
  h2 : H ca = some (.lst xc)
  h3 : H ba = some (.lst xb)
  h4 : H la = some (.lst xl)
  r2 : Rows K H xc ((b.relays.map (pairN b.nodes)).map arrV)
  r3 : Rows K H xb ((b.lamps.map (pairN b.nodes)).map arrV)
  r4 : Links K H b xl b.contacts
  only : ∀ m, m ∉ netNames → fs.lookup m = none
def NetAt (K : PySem.W.Frag) (N : Addr) (H : Hp) (p : Addr) (b : Bd) : Prop := ∃ (dx : Addr) (fs : List (Str × V)) (ca ba la : Addr) (xc xb xl : List V), H p = some (.ins N dx fs) ∧ NetFs K H fs b ca ba la xc xb xl
theorem NetAt.mono {N : Addr} {H H' : Hp} {p : Addr} {b : Bd} (s : Same H H') : NetAt K N H p b → NetAt K N H' p b
  | ⟨dx, fs, ca, ba, la, xc, xb, xl, hp, f⟩ => ⟨dx, fs, ca, ba, la, xc, xb, xl, s _ _ hp, f.l1, f.l2, f.l3, f.l4, s _ _ f.h2, s _ _ f.h3, s _ _ f.h4, f.r2.mono s, f.r3.mono s, f.r4.mono s, f.only⟩
def spNetI (K : PySem.W.Frag) (C N : Addr) : Sp := fun vs H Q _ => ∃ (p dx pb : Addr) (H0 : Hp) (b : Bd), vs = [.ref p, .ref pb] ∧ H p = some (.ins N dx []) ∧ H0 p = none ∧ Same H0 H ∧ BoardAt K C H0 pb b ∧ b.Ok ∧ Few b ∧ ∀ H', Same H0 H' → NetAt K N H' p b → Q .non H'
theorem scNetI : FnScope ["self", "board", "nodes", "movers", "_", "one", "other", "contact", "mover", "way", "number", "name"] ["self", "board"] (defScope sNetInit) := ⟨rfl, rfl, rfl, by decide +kernel, rfl, by decide +kernel, by decide +kernel⟩
theorem scMovers : FnScope ["self"] ["self"] (defScope sBoardMovers) := ⟨rfl, rfl, rfl, by decide +kernel, rfl, by decide +kernel, by decide +kernel⟩
def spMovers (K : PySem.W.Frag) (C : Addr) : Sp := fun vs H Q _ => ∃ (p : Addr) (b : Bd), vs = [.ref p] ∧ BoardAt K C H p b ∧ ∀ t, SqT K H t (b.movers.map V.str) → Q (.ref t) H
theorem ok_movers {f C sp sg : Addr} {mc : Value} {fd : FuncData} {k : Nat} (F : Fun K "movers" "Board.movers" sBoardMovers f fd) (T : BTxt K mg C mc sp sg) : FnOk P w K mg base CX0 (k + 1) f fd ["self"] (spMovers K C) := by
  refine F.ok scMovers (fun vs H Q E h => ?_) (fun cdv A outer s H vs Q E hr h => ?_)
  · obtain ⟨p, b, rfl, _⟩ := h
    rfl
  · obtain ⟨p, b, rfl, ⟨dx, fs, tn, ts, tr, tl, tc, tm, yr, yl, yc, hp, f, lm, hm, _⟩, q⟩ := h
    refine ⟨_, pss_one (ps_ret (pe_fld (pv 0) rfl)), ?_⟩
    exact ⟨_, rfl, p, C, dx, _, _, rfl, hp, T.cl, T.nM, lm, q tm hm⟩
/-- the dict of the places, by enumerate over a tuple of names -/
theorem pos_loop {K : PySem.W.Frag} {H1 : Hp} {a D : Addr} {zs : List Str} {vs : List Nat} {σ : L2.St} {Qd : Hp → Prop} {i0 i1 : Nat} (nd : zs.Nodup) (hl : zs.length ≤ 1000) (ha : SqT K H1 a (zs.map V.str)) (nD : H1 D = none)
    (hw : ∀ x y : V, wipe (((wipe σ vs).set i0 (some x)).set i1 (some y)) vs = wipe σ vs) (hg0 : ∀ x y : V, (((wipe σ vs).set i0 (some x)).set i1 (some y))[i0]? = some (some x)) (hg1 : ∀ x y : V, (((wipe σ vs).set i0 (some x)).set i1 (some y))[i1]? = some (some y))
    (hd : ∀ H2 kvs, Same H1 H2 → H2 D = some (.dK kvs) → PosD kvs zs → Qd H2) :
    ∃ W : Nat → Nat → Hp → Prop, (∃ m, W 0 m (upd H1 D (.dK []))) ∧ ∀ i m H, W i m H →
      ((ItU K a).stop i H ∧ Qd H) ∨ ((ItU K a).go i H ∧ ∃ Nx : Hp → Prop, (∀ H', Nx H' → ∃ m', m' < m ∧ W (i + 1) m' H') ∧ ∀ x H', (ItU K a).yld i H x H' → gTup K 2 (gCons (gName i0) (gCons (gName i1) gNil)) x (wipe σ vs) H' fun σ2 H2 => wipe σ2 vs = wipe σ vs ∧ tYes σ2 H2 fun b H3 =>
        if b = true then tVar i1 σ2 H3 fun y H4 => tVar i0 σ2 H4 fun z H5 => ∃ kvs k, y = kV k ∧ H5 D = some (.dK kvs) ∧ kvs.length < sizeLine ∧ Nx (upd H5 D (.dK (putK kvs k z))) else Nx H3) := by
  refine dc_it walk_enumT (fun i G => ∃ kvs, Same H1 G ∧ G D = some (.dK kvs) ∧ PosI kvs zs i) ⟨[], same_upd nD, upd_same, .nil⟩ (fun i G _ ⟨_, sm, _⟩ => Same.sqt sm ha) ?_ ?_
  · rintro i v G G2 hi ⟨kvs, sm, hd2, hI⟩ ⟨t, x, y, rfl, nt, rfl, hx, hy⟩
    cases hx
    rw [List.length_map] at hi
    have hy : (zs.map V.str)[i]? = some y := hy
    rw [List.getElem?_map, List.getElem?_eq_getElem hi] at hy
    have ey : y = .str zs[i] := (Option.some.inj hy).symm
    subst ey
    have s2 := same_upd (o := .tup [.int (i : Nat), .str zs[i]]) nt
    refine ⟨t, _, rfl, st upd_same, rfl, _, _, rfl, _, _, rfl, rfl, hw _ _, ?_⟩
    refine yesT ?_
    refine ⟨_, hg1 _ _, _, hg0 _ _, kvs, .inr zs[i], rfl, s2 _ _ hd2, szlt (by have := hI.1; omega), _, same_mut (sm.trans s2) nD, upd_same, hI.put nd (List.getElem?_eq_getElem hi)⟩
  · rintro G ⟨kvs, sm, hd2, hI⟩
    rw [List.length_map] at hI
    exact hd G kvs sm hd2 hI.all
theorem net_pairs {K : PySem.W.Frag} {H1 : Hp} {a D d : Addr} {kvs : List (Key × V)} {zs : List Str} {xs : List V} {rs : List Sp3} {vs : List Nat} {σ : L2.St} {Qd : Hp → Prop} {i0 i1 i2 id : Nat} (hd0 : H1 d = some (.dK kvs)) (hk : PosD kvs zs) (hR : Rows K H1 xs (rs.map Sp3.row)) (hin : ∀ r ∈ rs, r.one ∈ zs ∧ r.oth ∈ zs) (hl : rs.length ≤ 1000) (ha : SqT K H1 a xs) (nD : H1 D = none)
    (hw : ∀ x y z : V, wipe ((((wipe σ vs).set i0 (some x)).set i1 (some y)).set i2 (some z)) vs = wipe σ vs) (g1 : ∀ x y z : V, ((((wipe σ vs).set i0 (some x)).set i1 (some y)).set i2 (some z))[i1]? = some (some y)) (g2 : ∀ x y z : V, ((((wipe σ vs).set i0 (some x)).set i1 (some y)).set i2 (some z))[i2]? = some (some z))
    (gd : ∀ x y z : V, ((((wipe σ vs).set i0 (some x)).set i1 (some y)).set i2 (some z))[id]? = some (some (.ref d)))
    (hq : ∀ H2 ys, Same H1 H2 → H2 D = some (.lst ys) → Rows K H2 ys ((rs.map (pairN zs)).map arrV) → Qd H2) :
    ∃ W : Nat → Nat → Hp → Prop, (∃ m, W 0 m (upd H1 D (.lst []))) ∧ ∀ i m H, W i m H →
      ((Itt K a).stop i H ∧ Qd H) ∨ ((Itt K a).go i H ∧ ∃ Nx : Hp → Prop, (∀ H', Nx H' → ∃ m', m' < m ∧ W (i + 1) m' H') ∧ ∀ x H', (Itt K a).yld i H x H' → gTup K 3 (gCons (gName i0) (gCons (gName i1) (gCons (gName i2) gNil))) x (wipe σ vs) H' fun σ2 H2 => wipe σ2 vs = wipe σ vs ∧ tYes σ2 H2 fun b H3 =>
        if b = true then tTup (tCons (tDGet (tVar id) (tVar i1)) (tCons (tDGet (tVar id) (tVar i2)) tNil)) σ2 H3 fun y H4 => ∃ acc, H4 D = some (.lst acc) ∧ acc.length < sizeLine ∧ Nx (upd H4 D (.lst (acc ++ [y]))) else Nx H3) := by
  have lx := hR.len
  rw [List.length_map] at lx
  refine lc_tup (K := K) (a := a) (xs := xs) (fun i G => ∃ ys, Same H1 G ∧ G D = some (.lst ys) ∧ Rows K G ys (((rs.take i).map (pairN zs)).map arrV)) ⟨[], same_upd nD, upd_same, True.intro⟩ (fun i G _ ⟨_, sm, _⟩ => Same.sqt sm ha) ?_ ?_
  · rintro i v G hi ⟨ys, sm, hd, hY⟩
    obtain ⟨tt, rw_, rfl, hrow, hri⟩ := hR.at hi
    rw [List.getElem?_map] at hri
    obtain ⟨r, hr, rfl⟩ := Option.map_eq_some_iff.mp hri
    obtain ⟨m1, m2⟩ := hin r (List.mem_of_getElem? hr)
    have ly := hY.len
    rw [List.length_map, List.length_map, List.length_take] at ly
    refine ⟨tt, _, rfl, Same.sqt sm hrow, rfl, _, _, rfl, _, _, rfl, _, _, rfl, rfl, hw _ _ _, ?_⟩
    refine yesT ?_
    have e1 : valV kvs (.inr r.one) = some (natV (posS zs r.one)) := by rw [hk, if_pos m1]
    have e2 : valV kvs (.inr r.oth) = some (natV (posS zs r.oth)) := by rw [hk, if_pos m2]
    refine ⟨_, gd _ _ _, _, g1 _ _ _, d, _, rfl, e1 ▸ DGet.k (k := .inr r.one) (sm _ _ hd0), _, gd _ _ _, _, g2 _ _ _, d, _, rfl, e2 ▸ DGet.k (k := .inr r.oth) (sm _ _ hd0), by show 2 ≤ sizeLine; decide, fun t nt => ?_⟩
    have s2 := same_upd (o := .tup [natV (posS zs r.one), natV (posS zs r.oth)]) nt
    have hd2 := s2 _ _ hd
    have ne : D ≠ t := ne_of_none hd nt
    refine ⟨_, hd2, szlt (by omega), ys ++ [.ref t], same_mut (sm.trans s2) nD, upd_same, ?_⟩
    rw [List.take_add_one, hr, List.map_append, List.map_append]
    refine Rows.snoc ?_ (Rows.updl hd2 (hY.mono s2))
    exact .inl (.inl (by rw [upd_ne ne.symm]; exact upd_same))
  · rintro G ⟨ys, sm, hd, hY⟩
    rw [lx, List.take_length] at hY
    exact hq G ys sm hd hY
theorem spanB_in {zs : List Str} {r : Sp3} (h : spanB zs r = true) : r.one ∈ zs ∧ r.oth ∈ zs := by
  unfold spanB at h
  simp only [Bool.and_eq_true, decide_eq_true_eq] at h
  exact ⟨h.2.1, h.2.2.1⟩
theorem ctB_in {zs ms : List Str} {c : Ct} (h : ctB zs ms c = true) : c.one ∈ zs ∧ c.oth ∈ zs := by
  unfold ctB at h
  simp only [Bool.and_eq_true, decide_eq_true_eq] at h
  exact ⟨h.1, h.2.1⟩
theorem getN {H : Hp} {a : Addr} {kvs : List (Key × V)} {zs : List Str} {mv : Option Str} (h : H a = some (.dK kvs)) (hk : PosD kvs zs) (hm : ∀ m, mv = some m → m ∈ zs) : DGetN H a (mvV mv) (mvI zs mv) := by
  cases mv with
  | none => exact .inr ⟨kvs, rfl, .inl h, rfl⟩
  | some m =>
    refine .inl ⟨_, DGet.k (k := .inr m) h, ?_⟩
    rw [hk, if_pos (hm m rfl)]
    rfl
theorem nfs_at (v1 v2 v3 v4 : V) (m : Str) : (putF "_links" v4 (putF "_bulbs" v3 (putF "_coils" v2 (putF "_size" v1 [])))).lookup m = if m = "_links" then some v4 else if m = "_bulbs" then some v3 else if m = "_coils" then some v2 else if m = "_size" then some v1 else none := by
  rw [lookup_putF, lookup_putF, lookup_putF, lookup_putF]
  rfl
theorem nfs_len (v1 v2 v3 : V) : (putF "_bulbs" v3 (putF "_coils" v2 (putF "_size" v1 []))).length ≤ 3 ∧ (putF "_coils" v2 (putF "_size" v1 [])).length ≤ 2 ∧ (putF "_size" v1 []).length ≤ 1 := by
  have h1 : (putF "_size" v1 []).length ≤ 0 + 1 := putF_len _ _ []
  have h2 := putF_len "_coils" v2 (putF "_size" v1 [])
  have h3 := putF_len "_bulbs" v3 (putF "_coils" v2 (putF "_size" v1 []))
  omega
theorem ok_netI {f fMv C N sp sg pMv : Addr} {mc : Value} {fd fdMv : FuncData} {k : Nat} (F : Fun K "__init__" "Net.__init__" sNetInit f fd) (T : BTxt K mg C mc sp sg) (TN : NTxt K N)
    (FMv : Fun K "movers" "Board.movers" sBoardMovers fMv fdMv) (bMv : Binds K fdMv ["self"] []) (PMv : PropOf K C "movers" pMv fMv) : FnOk P w K mg base CX0 (k + 3) f fd ["self", "board"] (spNetI K C N) := by
  have GMv : FnOk P w K mg base CX0 1 fMv fdMv ["self"] (spMovers K C) := ok_movers FMv T
  refine F.ok scNetI (fun vs H Q E h => ?_) (fun cdv A outer s H vs Q E hr h => ?_)
  · obtain ⟨p, dx, pb, H0, b, rfl, _⟩ := h
    rfl
  · obtain ⟨p, dx, pb, H0, b, rfl, hp, np, s0, hB, ok, few, q⟩ := h
    have hu := hu_of hr
    have hr2 : Room 2 _ := hr.mono (by omega)
    refine ⟨_, pss_cons (ps_asg (pe_dc (own := [("number", 10), ("name", 11)]) (g := gTup K 2 (gCons (gName 10) (gCons (gName 11) gNil))) (tt := tYes) (tk := tVar 11) (tv := tVar 10) rfl scNetI.nd (pi_enumT rfl T.enu (pa_cons (pe_fld (pv 1) rfl) pa_nil)) (blkOk_by (N := ["self", "board", "nodes", "movers", "_", "one", "other", "contact", "mover", "way", "number", "name"]) (sc := defScope sNetInit) (by decide +kernel))
          (fun _ _ _ _ _ => pg_tup rfl (pgs_cons (pg_name (i := 10) scNetI.nd rfl (Or.inl rfl)) (pgs_cons (pg_name (i := 11) scNetI.nd rfl (Or.inl rfl)) pgs_nil))) (fun _ _ _ _ _ => pts_nil) (fun _ _ _ _ _ => pv 11) (fun _ _ _ _ _ => pv 10)) (pg_name (i := 2) scNetI.nd rfl (Or.inr rfl)))
      (pss_cons (ps_setDc (i := 3) (own := [("number", 10), ("name", 11)]) (g := gTup K 2 (gCons (gName 10) (gCons (gName 11) gNil))) (tt := tYes) (tk := tVar 11) (tv := tVar 10) rfl scNetI.nd rfl rfl (sw_trueD rfl rfl rfl (by decide +kernel)) (pi_enumT rfl T.enu (pa_cons (pe_prop (pv 1) T.cl PMv GMv hr2 bMv .nil pass0 rfl) pa_nil)) (blkOk_by (N := ["self", "board", "nodes", "movers", "_", "one", "other", "contact", "mover", "way", "number", "name"]) (sc := defScope sNetInit) (by decide +kernel))
          (fun _ _ _ _ _ => pg_tup rfl (pgs_cons (pg_name (i := 10) scNetI.nd rfl (Or.inl rfl)) (pgs_cons (pg_name (i := 11) scNetI.nd rfl (Or.inl rfl)) pgs_nil))) (fun _ _ _ _ _ => pts_nil) (fun _ _ _ _ _ => pv 11) (fun _ _ _ _ _ => pv 10))
      (pss_cons (ps_fld (pv 0) (pe_callB call_len_seq (by rfl) T.len PySem.boot_len (pa_cons (pe_fld (pv 1) rfl) pa_nil)) rfl)
      (pss_cons (ps_fld (pv 0) (pe_lc (own := [("_", 4), ("one", 5), ("other", 6)]) (g := gTup K 3 (gCons (gName 4) (gCons (gName 5) (gCons (gName 6) gNil)))) (tt := tYes) (te := tTup (tCons (tDGet (tVar 2) (tVar 5)) (tCons (tDGet (tVar 2) (tVar 6)) tNil))) rfl scNetI.nd (pi_tup (pe_fld (pv 1) rfl)) (blkOk_by (N := ["self", "board", "nodes", "movers", "_", "one", "other", "contact", "mover", "way", "number", "name"]) (sc := defScope sNetInit) (by decide +kernel))
          (fun _ _ _ _ _ => pg_tup rfl (pgs_cons (pg_name (i := 4) scNetI.nd rfl (Or.inl rfl)) (pgs_cons (pg_name (i := 5) scNetI.nd rfl (Or.inl rfl)) (pgs_cons (pg_name (i := 6) scNetI.nd rfl (Or.inl rfl)) pgs_nil)))) (fun _ _ _ _ _ => pts_nil) (fun _ _ _ _ _ => pe_tup (pa_cons (pe_dget hu (pv 2) (pv 5) (fun _ _ => rfl)) (pa_cons (pe_dget hu (pv 2) (pv 6) (fun _ _ => rfl)) pa_nil)))) rfl)
      (pss_cons (ps_fld (pv 0) (pe_lc (own := [("_", 4), ("one", 5), ("other", 6)]) (g := gTup K 3 (gCons (gName 4) (gCons (gName 5) (gCons (gName 6) gNil)))) (tt := tYes) (te := tTup (tCons (tDGet (tVar 2) (tVar 5)) (tCons (tDGet (tVar 2) (tVar 6)) tNil))) rfl scNetI.nd (pi_tup (pe_fld (pv 1) rfl)) (blkOk_by (N := ["self", "board", "nodes", "movers", "_", "one", "other", "contact", "mover", "way", "number", "name"]) (sc := defScope sNetInit) (by decide +kernel))
          (fun _ _ _ _ _ => pg_tup rfl (pgs_cons (pg_name (i := 4) scNetI.nd rfl (Or.inl rfl)) (pgs_cons (pg_name (i := 5) scNetI.nd rfl (Or.inl rfl)) (pgs_cons (pg_name (i := 6) scNetI.nd rfl (Or.inl rfl)) pgs_nil)))) (fun _ _ _ _ _ => pts_nil) (fun _ _ _ _ _ => pe_tup (pa_cons (pe_dget hu (pv 2) (pv 5) (fun _ _ => rfl)) (pa_cons (pe_dget hu (pv 2) (pv 6) (fun _ _ => rfl)) pa_nil)))) rfl)
      (pss_cons (ps_fld (pv 0) (pe_lst pa_nil) rfl)
      (pss_one (ps_for PassesOwn.never rfl (pi_tup (pe_fld (pv 1) rfl)) (pg_name (i := 7) scNetI.nd rfl (Or.inl rfl))
        (pss_cons (ps_asg (pv 7) (pg_tup rfl (pgs_cons (pg_name (i := 5) scNetI.nd rfl (Or.inl rfl)) (pgs_cons (pg_name (i := 6) scNetI.nd rfl (Or.inl rfl)) (pgs_cons (pg_name (i := 8) scNetI.nd rfl (Or.inl rfl)) (pgs_cons (pg_name (i := 4) scNetI.nd rfl (Or.inl rfl)) (pgs_cons (pg_name (i := 9) scNetI.nd rfl (Or.inl rfl)) pgs_nil)))))))
        (pss_one (ps_expr (pe_bm PySem.F.plainAttrs_list PySem.F.slot_list_append PySem.F.type_list_append mt_append (pe_fld (pv 0) rfl) (pa_cons (pe_tup (pa_cons (pv 7) (pa_cons (pe_dgetN hu (pv 3) (pv 8) ⟨rfl, rfl, rfl, rfl⟩) (pa_cons (pe_dget hu (pv 2) (pv 5) (fun _ _ => rfl)) (pa_cons (pe_dget hu (pv 2) (pv 6) (fun _ _ => rfl)) (pa_cons (pe_cmpR op_eq (pv 9) pe_str (nomark _)) pa_nil)))))) pa_nil)))))))))))), ?_⟩
    obtain ⟨dxb, fsb, tn, ts, tr, tl, tc, tm, xr, xl, xc, hpb, f, lm, hm, onb⟩ := id hB
    obtain ⟨_, ndN, _, l16⟩ := areNm_names ok.nodes
    obtain ⟨_, ndM, _, _⟩ := areNm_names ok.mv
    have lM : b.movers.length ≤ 1000 := by
      unfold Bd.movers
      rw [List.length_append, List.length_map]
      have := ok.sw
      have := ok.rl
      omega
    -- nodes
    refine ⟨_, rfl, pb, C, dxb, fsb, _, rfl, s0 _ _ hpb, T.cl, T.nN, f.ln, tn, _, rfl, Same.sqt s0 f.hn, fun D1 nD1 => ?_⟩
    refine pos_loop (i0 := 10) (i1 := 11) ndN (by omega) (Same.sqt s0 f.hn) nD1 (fun _ _ => rfl) (fun _ _ => rfl) (fun _ _ => rfl) fun H1 k1 s1 hd1 hP1 => ?_
    have e1 := s0.trans s1
    -- movers
    refine ⟨_, rfl, pb, dxb, fsb, rfl, e1 _ _ hpb, pb, b, rfl, hB.mono e1, fun tm' hm' => ⟨tm', _, rfl, hm', fun D2 nD2 => ?_⟩⟩
    refine pos_loop (i0 := 10) (i1 := 11) ndM lM hm' nD2 (fun _ _ => rfl) (fun _ _ => rfl) (fun _ _ => rfl) fun H2 k2 s2 hd2 hP2 => ?_
    have e2 := e1.trans s2
    -- _size
    refine ⟨_, rfl, pb, C, dxb, fsb, _, rfl, e2 _ _ hpb, T.cl, T.nN, f.ln, tn, _, rfl, .inr (Same.sqt e2 f.hn), ?_⟩
    refine ⟨_, rfl, p, N, dx, _, rfl, s2 _ _ (s1 _ _ hp), TN.cl, TN.n1, by decide, ?_⟩
    have keepD : ∀ {G : Hp} {d : Addr} {kvs : List (Key × V)} {fs fs' : List (Str × V)}, G p = some (.ins N dx fs) → G d = some (.dK kvs) → (upd G p (.ins N dx fs')) d = some (.dK kvs) := fun hg hd => by
      rw [upd_ne (ne_of hd hg (by intro z; cases z))]
      exact hd
    have keepL : ∀ {G : Hp} {d : Addr} {xs : List V} {fs fs' : List (Str × V)}, G p = some (.ins N dx fs) → G d = some (.lst xs) → (upd G p (.ins N dx fs')) d = some (.lst xs) := fun hg hd => by
      rw [upd_ne (ne_of hd hg (by intro z; cases z))]
      exact hd
    have p2 := s2 _ _ (s1 _ _ hp)
    have e3 : Same H0 (upd H2 p (.ins N dx (putF "_size" (.int ((b.nodes.map V.str).length : Nat)) []))) := same_mut e2 np
    have a3 := keepD (fs' := putF "_size" (.int ((b.nodes.map V.str).length : Nat)) []) p2 (s2 _ _ hd1)
    have b3 := keepD (fs' := putF "_size" (.int ((b.nodes.map V.str).length : Nat)) []) p2 hd2
    -- _coils
    refine ⟨_, rfl, pb, C, dxb, fsb, _, rfl, e3 _ _ hpb, T.cl, T.nR, f.lr, tr, rfl, ⟨_, Same.sqt e3 f.hr⟩, fun D3 nD3 => ?_⟩
    refine net_pairs (i0 := 4) (i1 := 5) (i2 := 6) (id := 2) a3 hP1 (f.rr.mono e3) (fun r hr => spanB_in (ok.spR r hr)) (by have := ok.rl; omega) (Same.sqt e3 f.hr) nD3 (fun _ _ _ => rfl) (fun _ _ _ => rfl) (fun _ _ _ => rfl) (fun _ _ _ => rfl) fun H4 yc s4 hc4 hY4 => ?_
    have p4 := s4 _ _ (upd_same (H := H2) (a := p) (o := .ins N dx (putF "_size" (.int ((b.nodes.map V.str).length : Nat)) [])))
    refine ⟨_, rfl, p, N, dx, _, rfl, p4, TN.cl, TN.n2, by have := nfs_len (.int ((b.nodes.map V.str).length : Nat)) .non .non; omega, ?_⟩
    have e5 : Same H0 (upd H4 p (.ins N dx (putF "_coils" (.ref D3) (putF "_size" (.int ((b.nodes.map V.str).length : Nat)) [])))) := same_mut (e3.trans s4) np
    have a5 := keepD (fs' := putF "_coils" (.ref D3) (putF "_size" (.int ((b.nodes.map V.str).length : Nat)) [])) p4 (s4 _ _ a3)
    have b5 := keepD (fs' := putF "_coils" (.ref D3) (putF "_size" (.int ((b.nodes.map V.str).length : Nat)) [])) p4 (s4 _ _ b3)
    have c5 := keepL (fs' := putF "_coils" (.ref D3) (putF "_size" (.int ((b.nodes.map V.str).length : Nat)) [])) p4 hc4
    -- _bulbs
    refine ⟨_, rfl, pb, C, dxb, fsb, _, rfl, e5 _ _ hpb, T.cl, T.nL, f.ll, tl, rfl, ⟨_, Same.sqt e5 f.hl⟩, fun D4 nD4 => ?_⟩
    refine net_pairs (i0 := 4) (i1 := 5) (i2 := 6) (id := 2) a5 hP1 (f.rl.mono e5) (fun r hr => spanB_in (ok.spL r hr)) few.l (Same.sqt e5 f.hl) nD4 (fun _ _ _ => rfl) (fun _ _ _ => rfl) (fun _ _ _ => rfl) (fun _ _ _ => rfl) fun H6 yb s6 hc6 hY6 => ?_
    have p6 := s6 _ _ (upd_same (H := H4) (a := p) (o := .ins N dx (putF "_coils" (.ref D3) (putF "_size" (.int ((b.nodes.map V.str).length : Nat)) []))))
    refine ⟨_, rfl, p, N, dx, _, rfl, p6, TN.cl, TN.n3, by have := nfs_len (.int ((b.nodes.map V.str).length : Nat)) (.ref D3) .non; omega, ?_⟩
    have e7 : Same H0 (upd H6 p (.ins N dx (putF "_bulbs" (.ref D4) (putF "_coils" (.ref D3) (putF "_size" (.int ((b.nodes.map V.str).length : Nat)) []))))) := same_mut (e5.trans s6) np
    have a7 := keepD (fs' := putF "_bulbs" (.ref D4) (putF "_coils" (.ref D3) (putF "_size" (.int ((b.nodes.map V.str).length : Nat)) []))) p6 (s6 _ _ a5)
    have b7 := keepD (fs' := putF "_bulbs" (.ref D4) (putF "_coils" (.ref D3) (putF "_size" (.int ((b.nodes.map V.str).length : Nat)) []))) p6 (s6 _ _ b5)
    have c7 := keepL (fs' := putF "_bulbs" (.ref D4) (putF "_coils" (.ref D3) (putF "_size" (.int ((b.nodes.map V.str).length : Nat)) []))) p6 (s6 _ _ c5)
    have d7 := keepL (fs' := putF "_bulbs" (.ref D4) (putF "_coils" (.ref D3) (putF "_size" (.int ((b.nodes.map V.str).length : Nat)) []))) p6 hc6
    have ry : Rows K (upd H6 p (.ins N dx (putF "_bulbs" (.ref D4) (putF "_coils" (.ref D3) (putF "_size" (.int ((b.nodes.map V.str).length : Nat)) []))))) yc ((b.relays.map (pairN b.nodes)).map arrV) :=
      KeepP.upd.rows p6 ((KeepP.upd.rows p4 hY4).mono s6)
    have rb : Rows K (upd H6 p (.ins N dx (putF "_bulbs" (.ref D4) (putF "_coils" (.ref D3) (putF "_size" (.int ((b.nodes.map V.str).length : Nat)) []))))) yb ((b.lamps.map (pairN b.nodes)).map arrV) := KeepP.upd.rows p6 hY6
    -- _links
    refine ⟨by show 0 ≤ sizeLine; decide, fun la nla => ?_⟩
    have sla := same_upd (o := .lst []) nla
    have p8 := sla _ _ (upd_same (H := H6) (a := p) (o := .ins N dx (putF "_bulbs" (.ref D4) (putF "_coils" (.ref D3) (putF "_size" (.int ((b.nodes.map V.str).length : Nat)) [])))))
    have nla0 : H0 la = none := e7.free nla
    have ncl : D3 ≠ la := ne_of_none c7 nla
    have ndl : D4 ≠ la := ne_of_none d7 nla
    refine ⟨_, rfl, p, N, dx, _, rfl, p8, TN.cl, TN.n4, by have := nfs_len (.int ((b.nodes.map V.str).length : Nat)) (.ref D3) (.ref D4); omega, ?_⟩
    generalize hF : putF "_links" (.ref la) (putF "_bulbs" (.ref D4) (putF "_coils" (.ref D3) (putF "_size" (.int ((b.nodes.map V.str).length : Nat)) []))) = fs4
    have lF : ∀ m, fs4.lookup m = if m = "_links" then some (.ref la) else if m = "_bulbs" then some (.ref D4) else if m = "_coils" then some (.ref D3) else if m = "_size" then some (.int ((b.nodes.map V.str).length : Nat)) else none := fun m => by
      rw [← hF]
      exact nfs_at _ _ _ _ m
    have l4 : fs4.lookup ("_links" : Str) = some (.ref la) := by rw [lF, if_pos rfl]
    have e9 : Same H0 (upd (upd (upd H6 p (.ins N dx (putF "_bulbs" (.ref D4) (putF "_coils" (.ref D3) (putF "_size" (.int ((b.nodes.map V.str).length : Nat)) []))))) la (.lst [])) p (.ins N dx fs4)) := same_mut (e7.trans sla) np
    have a9 := keepD (fs' := fs4) p8 (sla _ _ a7)
    have b9 := keepD (fs' := fs4) p8 (sla _ _ b7)
    have c9 := keepL (fs' := fs4) p8 (sla _ _ c7)
    have d9 := keepL (fs' := fs4) p8 (sla _ _ d7)
    have g9 := keepL (fs' := fs4) p8 (upd_same (H := upd H6 p (.ins N dx (putF "_bulbs" (.ref D4) (putF "_coils" (.ref D3) (putF "_size" (.int ((b.nodes.map V.str).length : Nat)) []))))) (a := la) (o := .lst []))
    have ry9 := KeepP.upd.rows (H' := upd _ p (.ins N dx fs4)) p8 (ry.mono sla)
    have rb9 := KeepP.upd.rows (H' := upd _ p (.ins N dx fs4)) p8 (rb.mono sla)
    have p9 := upd_same (H := upd (upd H6 p (.ins N dx (putF "_bulbs" (.ref D4) (putF "_coils" (.ref D3) (putF "_size" (.int ((b.nodes.map V.str).length : Nat)) []))))) la (.lst [])) (a := p) (o := .ins N dx fs4)
    generalize upd (upd (upd H6 p (.ins N dx (putF "_bulbs" (.ref D4) (putF "_coils" (.ref D3) (putF "_size" (.int ((b.nodes.map V.str).length : Nat)) []))))) la (.lst [])) p (.ins N dx fs4) = H9 at e9 a9 b9 c9 d9 g9 ry9 rb9 p9 ⊢
    -- the loop
    have lc := f.rc.len
    rw [List.length_map] at lc
    refine ⟨_, rfl, pb, C, dxb, fsb, _, rfl, e9 _ _ hpb, T.cl, T.nC, f.lc, tc, rfl, ⟨_, Same.sqt e9 f.hc⟩, for_tup (K := K) (a := tc) (xs := xc) (fun i σ G => (∃ z4 z5 z6 z7 z8 z9 : Option V, σ = [some (.ref p), some (.ref pb), some (.ref D1), some (.ref D2), z4, z5, z6, z7, z8, z9, none, none]) ∧ ∃ xl, G la = some (.lst xl) ∧ Links K G b xl (b.contacts.take i) ∧ KeepP la H9 G)
      ⟨⟨none, none, none, none, none, none, rfl⟩, [], g9, True.intro, fun _ _ _ h => h⟩ ?_ ?_ ?_⟩
    · rintro i σ G hi ⟨_, xl, _, _, kp⟩
      exact Same.sqt (fun x o h => kp x o (ne_of_none h nla0) (e9 x o h)) f.hc
    · rintro i v σ G hi ⟨⟨z4, z5, z6, z7, z8, z9, rfl⟩, xl, hla, hL, kp⟩
      obtain ⟨tt, rw_, rfl, hrow, hri⟩ := f.rc.at hi
      rw [List.getElem?_map] at hri
      obtain ⟨c, hc, rfl⟩ := Option.map_eq_some_iff.mp hri
      have cin := ctB_in (ok.cts c (List.mem_of_getElem? hc))
      have cmv := ctB_mv (ok.cts c (List.mem_of_getElem? hc))
      have eG : Same H0 G := fun x o h => kp x o (ne_of_none h nla0) (e9 x o h)
      have aG := kp _ _ (ne_of a9 g9 (by intro z; cases z)) a9
      have bG := kp _ _ (ne_of b9 g9 (by intro z; cases z)) b9
      have pG := kp _ _ (ne_of p9 g9 (by intro z; cases z)) p9
      have rowG := Same.sqt eG hrow
      have lx := hL.len
      rw [List.length_take] at lx
      refine ⟨_, rfl, tt, _, rfl, rowG, rfl, _, _, rfl, _, _, rfl, _, _, rfl, _, _, rfl, _, _, rfl, rfl, ?_⟩
      refine ⟨_, rfl, p, N, dx, _, _, rfl, pG, TN.cl, TN.n4, l4, .inl ⟨rfl, _, sq hla⟩, ?_⟩
      refine ⟨_, rfl, _, rfl, D2, rfl, .inl ⟨_, .inl bG⟩, _, rfl, _, getN bG hP2 cmv, ?_⟩
      have g1 : valV k1 (.inr c.one) = some (natV (posS b.nodes c.one)) := by rw [hP1, if_pos cin.1]
      have g2 : valV k1 (.inr c.oth) = some (natV (posS b.nodes c.oth)) := by rw [hP1, if_pos cin.2]
      refine ⟨_, rfl, _, rfl, D1, _, rfl, g1 ▸ DGet.k (k := .inr c.one) aG, _, rfl, _, rfl, D1, _, rfl, g2 ▸ DGet.k (k := .inr c.oth) aG, _, rfl, rfl, by show 5 ≤ sizeLine; decide, fun t nt => ?_⟩
      have st := same_upd (o := .tup [.ref tt, mvI b.movers c.mv, natV (posS b.nodes c.one), natV (posS b.nodes c.oth), .bl (decide (V.str c.way = V.str "both"))]) nt
      have ew : decide (V.str c.way = V.str "both") = decide (c.way = bothS) := decide_eq_decide.mpr ⟨fun h => V.str.inj h, fun h => congrArg V.str h⟩
      refine ⟨la, xl, _, rfl, rfl, st _ _ hla, szlt (by have := ok.ct; omega), ⟨_, _, _, _, _, _, rfl⟩, xl ++ [.ref t], upd_same, ?_, ?_⟩
      · rw [List.take_add_one, hc]
        refine Links.snoc (t := tt) ?_ ?_ ((hL.mono st).upd (st _ _ hla))
        · refine sqt_updl (st _ _ hla) (.inl (.inl ?_))
          rw [upd_same, ew]
          rfl
        · exact sqt_updl (st _ _ hla) (Same.sqt st rowG)
      · exact fun x o n h => by
          rw [upd_ne n]
          exact st _ _ (kp x o n h)
    · rintro σ G ⟨_, xl, hla, hL, kp⟩
      rw [lc, List.take_length] at hL
      have eG : Same H0 G := fun x o h => kp x o (ne_of_none h nla0) (e9 x o h)
      have keepR : ∀ {xs : List V} {rs : List (List V)}, Rows K H9 xs rs → Rows K G xs rs := by
        intro xs
        induction xs with
        | nil => intro rs h; cases rs with | nil => exact True.intro | cons _ _ => exact h
        | cons x xs ih =>
          intro rs h
          cases rs with
          | nil => exact h
          | cons r rs =>
            obtain ⟨⟨t, e, q⟩, h2⟩ := h
            refine ⟨⟨t, e, ?_⟩, ih h2⟩
            rcases q with (q | ⟨o, q⟩) | q
            · exact .inl (.inl (kp _ _ (ne_of q g9 (by intro z; cases z)) q))
            · exact .inl (.inr ⟨o, kp _ _ (ne_of q g9 (by intro z; cases z)) q⟩)
            · exact .inr q
      have pG := kp _ _ (ne_of p9 g9 (by intro z; cases z)) p9
      refine q G eG ⟨dx, fs4, D3, D4, la, yc, yb, xl, pG, ?_, ?_, ?_, l4, ?_, ?_, hla, keepR ry9, keepR rb9, hL, ?_⟩
      · rw [lF, if_neg (by decide +kernel), if_neg (by decide +kernel), if_neg (by decide +kernel), if_pos rfl, List.length_map]
        rfl
      · rw [lF, if_neg (by decide +kernel), if_neg (by decide +kernel), if_pos rfl]
      · rw [lF, if_neg (by decide +kernel), if_pos rfl]
      · exact kp _ _ ncl c9
      · exact kp _ _ ndl d9
      · intro m hm
        unfold netNames at hm
        simp only [List.mem_cons, List.not_mem_nil, or_false, not_or] at hm
        rw [lF, if_neg hm.2.2.2, if_neg hm.2.2.1, if_neg hm.2.1, if_neg hm.1]
/-! ### arrows and marks -/
def pairP (zs : List Str) (p : Str × Str) : Nat × Nat := (posS zs p.1, posS zs p.2)
theorem posS_inj {zs : List Str} {x y : Str} (hx : x ∈ zs) (hy : y ∈ zs) (e : posS zs x = posS zs y) : x = y := by
  have h1 := (posS_ok hx).1
  have h2 := (posS_ok hy).1
  rw [e, h2] at h1
  exact (Option.some.inj h1).symm
theorem npath_iff {ps : List (Str × Str)} {zs : List Str} (hin : ∀ p ∈ ps, p.1 ∈ zs ∧ p.2 ∈ zs) {z : Str} (hz : z ∈ zs) {j : Nat} : NPath (ps.map (pairP zs)) (posS zs z) j ↔ ∃ y, y ∈ zs ∧ posS zs y = j ∧ Path ps z y := by
  constructor
  · intro h
    induction h with
    | base => exact ⟨z, hz, rfl, .base⟩
    | @step x j _ e ih =>
      obtain ⟨y, hy, ey, py⟩ := ih
      obtain ⟨p, hp, ep⟩ := List.mem_map.mp e
      have e1 : posS zs p.1 = x := congrArg Prod.fst ep
      have e2 : posS zs p.2 = j := congrArg Prod.snd ep
      have e3 : y = p.1 := posS_inj hy (hin p hp).1 (ey.trans e1.symm)
      subst e3
      exact ⟨p.2, (hin p hp).2, e2, .step py hp⟩
  · rintro ⟨y, hy, rfl, py⟩
    induction py with
    | base => exact .base
    | @step x y _ e ih => exact .step (ih (hin _ e).1) (List.mem_map.mpr ⟨_, e, rfl⟩)
theorem marks_eq {ps : List (Str × Str)} {zs : List Str} (nd : zs.Nodup) (hin : ∀ p ∈ ps, p.1 ∈ zs ∧ p.2 ∈ zs) {z : Str} (hz : z ∈ zs) {fl : List Bool} (hl : fl.length = zs.length) (h : ∀ j, fl[j]? = some true ↔ NPath (ps.map (pairP zs)) (posS zs z) j) :
    fl = zs.map fun y => decide (y ∈ reachF ps [z] zs.length) := by
  refine List.ext_getElem? fun j => ?_
  rw [List.getElem?_map]
  by_cases hj : j < zs.length
  · have hy : zs[j]? = some zs[j] := List.getElem?_eq_getElem hj
    rw [hy]
    have e : (fl[j]? = some true) ↔ zs[j] ∈ reachF ps [z] zs.length := by
      rw [h j, npath_iff hin hz, reachF_mem hz (fun p hp => (hin p hp).2)]
      constructor
      · rintro ⟨y, hy1, hy2, hy3⟩
        have : y = zs[j] := by
          have q := (posS_ok hy1).1
          rw [hy2, hy] at q
          exact (Option.some.inj q).symm
        exact this ▸ hy3
      · intro p
        exact ⟨zs[j], List.getElem_mem hj, posS_at nd hy, p⟩
    have hf : fl[j]? = some fl[j] := List.getElem?_eq_getElem (by omega)
    rw [hf] at e ⊢
    show some fl[j] = some (decide _)
    congr 1
    cases q : fl[j] with
    | true =>
      rw [q] at e
      exact (decide_eq_true (e.mp rfl)).symm
    | false =>
      rw [q] at e
      exact (decide_eq_false fun z => by cases e.mpr z).symm
  · rw [List.getElem?_eq_none (by omega), List.getElem?_eq_none (by omega)]
    rfl
theorem pairsF_in {b : Bd} (ok : b.Ok) {on : List Bool} {i : Nat} : ∀ p ∈ pairsF b on i, p.1 ∈ b.nodes ∧ p.2 ∈ b.nodes := by
  intro p hp
  unfold pairsF at hp
  obtain ⟨l, hl, hp⟩ := List.mem_flatten.mp hp
  obtain ⟨c, hc, rfl⟩ := List.mem_map.mp hl
  have hin := ctB_in (ok.cts c (List.mem_of_mem_take hc))
  unfold waysOf at hp
  split at hp
  · rcases List.mem_cons.mp hp with rfl | hp
    · exact hin
    · split at hp
      · rw [List.mem_singleton.mp hp]
        exact ⟨hin.2, hin.1⟩
      · cases hp
  · cases hp
def feedF (b : Bd) (on : List Bool) : List Str := reachF ((pairsF b on b.contacts.length).map Prod.swap) [n1 b] b.nodes.length
def fedM (b : Bd) (on : List Bool) : List Bool := b.nodes.map fun z => decide (z ∈ fedF b on)
def feedM (b : Bd) (on : List Bool) : List Bool := b.nodes.map fun z => decide (z ∈ feedF b on)
def arrF (b : Bd) (on : List Bool) (i : Nat) : List (Nat × Nat) := (pairsF b on i).map (pairP b.nodes)
def onAt (ms : List Str) (on : List Bool) : Option Str → Bool
  | none => false
  | some m => on.getD (posS ms m) false
theorem closes_closed (ms : List Str) (on : List Bool) (c : Ct) : closesB c (onAt ms on c.mv) = closedB ms on c := by
  unfold closesB closedB onAt
  cases c.mv with
  | none => rfl
  | some m =>
    dsimp only
    cases on.getD (posS ms m) false <;> cases decide (c.whn = makeS) <;> rfl
theorem arrF_succ {b : Bd} {on : List Bool} {i : Nat} {c : Ct} (h : b.contacts[i]? = some c) : arrF b on (i + 1) = arrF b on i ++ (waysOf b.movers on c).map (pairP b.nodes) := by
  unfold arrF
  rw [pairsF_succ h, List.map_append]
def spArrows (K : PySem.W.Frag) (N : Addr) : Sp := fun vs H Q _ => ∃ (p m : Addr) (b : Bd) (on : List Bool), vs = [.ref p, .ref m] ∧ NetAt K N H p b ∧ b.Ok ∧ Sq K H m (on.map V.bl) ∧ on.length = b.movers.length ∧
  ∀ H' o ys, Same H H' → H o = none → H' o = some (.lst ys) → Rows K H' ys ((arrF b on b.contacts.length).map arrV) → Q (.ref o) H'
theorem scArrows : FnScope ["self", "movers", "arrows", "contact", "mover", "one", "other", "both"] ["self", "movers"] (defScope sNetArrows) := ⟨rfl, rfl, rfl, by decide +kernel, rfl, by decide +kernel, by decide +kernel⟩
theorem ok_arrows {f fC N : Addr} {fd fdC : FuncData} {k : Nat} (F : Fun K "_arrows" "Net._arrows" sNetArrows f fd) (TN : NTxt K N) (FC : Fun K "closes" "closes" sCloses fC fdC) (bC : Binds K fdC ["contact", "on"] []) (gC : mg "closes" = some (.ref fC)) :
    FnOk P w K mg base CX0 (k + 2) f fd ["self", "movers"] (spArrows K N) := by
  have GC : FnOk P w K mg base CX0 (k + 1) fC fdC ["contact", "on"] (spCloses K) := ok_closes FC
  refine F.ok scArrows (fun vs H Q E h => ?_) (fun cdv A outer s H vs Q E hr h => ?_)
  · obtain ⟨p, m, b, on, rfl, _⟩ := h
    rfl
  · obtain ⟨p, m, b, on, rfl, ⟨dx, fs, ca, ba, la, xc, xb, xl, hp, f⟩, ok, hm, lon, q⟩ := h
    refine ⟨_, pss_cons (ps_set (i := 2) scArrows.nd rfl (.inl rfl) (pe_lst pa_nil))
      (pss_cons (ps_for PassesOwn.never rfl (pi_list (pe_fld (pv 0) rfl)) (pg_tup rfl (pgs_cons (pg_name (i := 3) scArrows.nd rfl (.inl rfl)) (pgs_cons (pg_name (i := 4) scArrows.nd rfl (.inl rfl)) (pgs_cons (pg_name (i := 5) scArrows.nd rfl (.inl rfl)) (pgs_cons (pg_name (i := 6) scArrows.nd rfl (.inl rfl)) (pgs_cons (pg_name (i := 7) scArrows.nd rfl (.inl rfl)) pgs_nil))))))
        (pss_one (ps_if (pt_val (pe_call GC hr (by rfl) gC FC.kp bC .nil pass0 (pa_cons (pv 3) (pa_cons (pe_and (pe_cmpR op_notN (pv 4) pe_non (nomark _)) (pe_one (pe_ix ix_any (pv 1) (pv 4) (fun _ _ => rfl)))) pa_nil))))
          (pss_cons (ps_expr (pe_bm PySem.F.plainAttrs_list PySem.F.slot_list_append PySem.F.type_list_append mt_append (pv 2) (pa_cons (pe_tup (pa_cons (pv 5) (pa_cons (pv 6) pa_nil))) pa_nil)))
          (pss_one (ps_if (pt_val (pv 7)) (pss_one (ps_expr (pe_bm PySem.F.plainAttrs_list PySem.F.slot_list_append PySem.F.type_list_append mt_append (pv 2) (pa_cons (pe_tup (pa_cons (pv 6) (pa_cons (pv 5) pa_nil))) pa_nil)))) pss_nil))) pss_nil)))
      (pss_one (ps_ret (pv 2)))), ?_⟩
    refine ⟨by show 0 ≤ sizeLine; decide, fun o no => ?_⟩
    have so := same_upd (o := .lst []) no
    have lx := f.r4.len
    refine ⟨_, rfl, p, N, dx, _, _, rfl, so _ _ hp, TN.cl, TN.n4, f.l4, la, rfl, ⟨_, sq (so _ _ f.h4)⟩, for_list (K := K) (a := la) (xs := xl) (fun i σ G => (∃ z3 z4 z5 z6 z7 : Option V, σ = [some (.ref p), some (.ref m), some (.ref o), z3, z4, z5, z6, z7]) ∧ ∃ ys, Same H G ∧ G o = some (.lst ys) ∧ Rows K G ys ((arrF b on i).map arrV))
      ⟨⟨none, none, none, none, none, rfl⟩, [], so, upd_same, by unfold arrF pairsF; exact True.intro⟩ (fun i σ G _ ⟨_, _, sm, _⟩ => sq (sm _ _ f.h4)) ?_ ?_⟩
    · rintro i v σ G hi ⟨⟨z3, z4, z5, z6, z7, rfl⟩, ys, sm, ho, hR⟩
      obtain ⟨u, t, c, rfl, hu, ht, hc⟩ := f.r4.at hi
      have cin := ctB_in (ok.cts c (List.mem_of_getElem? hc))
      have cmv := ctB_mv (ok.cts c (List.mem_of_getElem? hc))
      have la2 : (arrF b on i).length ≤ 2 * i := by
        unfold arrF
        rw [List.length_map]
        exact pairsF_len b on i
      have hi40 : i < 40 := by
        have h1 := (List.getElem?_eq_some_iff.mp hc).1
        have := ok.ct
        omega
      have ly := hR.len
      rw [List.length_map] at ly
      refine ⟨u, _, rfl, Same.sqt sm hu, rfl, _, _, rfl, _, _, rfl, _, _, rfl, _, _, rfl, _, _, rfl, rfl, ?_⟩
      -- closes
      have arg : ∀ Qa : VK, Qa (.bl (onAt b.movers on c.mv)) G → tAndV (tOp (fun x y H Q => y = .non ∧ Q (.bl (!decide (x = .non))) H) (tVar 4) (tC .non)) (tOp (rIxA K) (tVar 1) (tVar 4)) [some (.ref p), some (.ref m), some (.ref o), some (.ref t), some (mvI b.movers c.mv), some (natV (posS b.nodes c.one)), some (natV (posS b.nodes c.oth)), some (.bl (decide (c.way = bothS)))] G Qa := by
        intro Qa qa
        refine ⟨_, rfl, rfl, _, rfl, ?_⟩
        cases e : c.mv with
        | none =>
          rw [e] at qa
          refine iteF ?_
          exact qa
        | some mo =>
          rw [e] at qa
          refine iteT ?_
          refine ⟨_, rfl, _, rfl, ?_⟩
          have hp2 := posS_lt (cmv mo e)
          refine ixA (Same.sq sm hm) (v := .bl (on.getD (posS b.movers mo) false)) (atI_nat ?_) qa
          rw [List.getElem?_map, List.getElem?_eq_getElem (by omega), List.getD_eq_getElem?_getD, List.getElem?_eq_getElem (by omega)]
          rfl
      refine ⟨_, rfl, arg _ ⟨t, c, _, rfl, Same.sqt sm ht, ⟨_, rfl, ?_⟩⟩⟩
      rw [closes_closed]
      have sn : ∀ {G' : Hp} {ys' : List V} {t' : Addr} {x y : Nat} {ps : List (Nat × Nat)}, G' o = some (.lst ys') → G' t' = none → Rows K G' ys' (ps.map arrV) → Rows K (upd (upd G' t' (.tup [natV x, natV y])) o (.lst (ys' ++ [.ref t']))) (ys' ++ [.ref t']) ((ps ++ [(x, y)]).map arrV) := by
        intro G' ys' t' x y ps ho' nt' hR'
        have st' := same_upd (o := .tup [natV x, natV y]) nt'
        have ne : o ≠ t' := ne_of_none ho' nt'
        rw [List.map_append]
        refine Rows.snoc ?_ (Rows.updl (st' _ _ ho') (hR'.mono st'))
        exact .inl (.inl (by rw [upd_ne ne.symm]; exact upd_same))
      cases e : closedB b.movers on c with
      | false =>
        refine iteF ?_
        refine ⟨⟨_, _, _, _, _, rfl⟩, ys, sm, ho, ?_⟩
        rw [arrF_succ hc]
        unfold waysOf
        rw [e, if_neg Bool.false_ne_true, List.map_nil, List.append_nil]
        exact hR
      | true =>
        refine iteT ?_
        refine ⟨_, rfl, .inl ⟨rfl, _, sq ho⟩, _, rfl, _, rfl, by show 2 ≤ sizeLine; decide, fun t1 nt1 => ?_⟩
        have s1 := same_upd (o := .tup [natV (posS b.nodes c.one), natV (posS b.nodes c.oth)]) nt1
        refine ⟨o, ys, _, rfl, rfl, s1 _ _ ho, szlt (by omega), ?_⟩
        have m1 := same_mut (sm.trans s1) no (o := .lst (ys ++ [.ref t1]))
        have R1 := sn (x := posS b.nodes c.one) (y := posS b.nodes c.oth) ho nt1 hR
        refine ⟨_, rfl, _, rfl, ?_⟩
        cases ew : decide (c.way = bothS) with
        | false =>
          refine iteF ?_
          refine ⟨⟨_, _, _, _, _, rfl⟩, _, m1, upd_same, ?_⟩
          rw [arrF_succ hc]
          unfold waysOf
          rw [e, if_pos rfl, if_neg (of_decide_eq_false ew)]
          exact R1
        | true =>
          refine iteT ?_
          refine ⟨_, rfl, .inl ⟨rfl, _, sq upd_same⟩, _, rfl, _, rfl, by show 2 ≤ sizeLine; decide, fun t2 nt2 => ?_⟩
          have s2 := same_upd (o := .tup [natV (posS b.nodes c.oth), natV (posS b.nodes c.one)]) nt2
          refine ⟨o, _, _, rfl, rfl, s2 _ _ upd_same, szlt (by rw [List.length_append]; show ys.length + 1 ≤ _; omega), ?_⟩
          refine ⟨⟨_, _, _, _, _, rfl⟩, _, same_mut (m1.trans s2) no, upd_same, ?_⟩
          rw [arrF_succ hc]
          unfold waysOf
          rw [e, if_pos rfl, if_pos (of_decide_eq_true ew)]
          have R2 := sn (x := posS b.nodes c.oth) (y := posS b.nodes c.one) upd_same nt2 R1
          rw [List.append_assoc (arrF b on i)] at R2
          exact R2
    · rintro σ G ⟨⟨z3, z4, z5, z6, z7, rfl⟩, ys, sm, ho, hR⟩
      rw [lx] at hR
      exact ⟨_, rfl, q G o ys sm no ho hR⟩
/-! ### fed_nodes, feeding_nodes -/
structure NetM (K : PySem.W.Frag) (mg : Str → Option Value) (N fI fA : Addr) : Prop where
  mgN : mg "Net" = some (.ref N)
  make : Mk K N fI
  ma : Meth K N "_arrows" fA
  gP : ∃ t, mg "PLUS" = some (.int 0 t)
  gM : ∃ t, mg "MINUS" = some (.int 1 t)
theorem arrF_bound {b : Bd} (ok : b.Ok) {on : List Bool} : (arrF b on b.contacts.length).length ≤ 1000 ∧ ∀ p ∈ arrF b on b.contacts.length, p.1 < b.nodes.length ∧ p.2 < b.nodes.length := by
  constructor
  · unfold arrF
    rw [List.length_map]
    have := pairsF_len b on b.contacts.length
    have := ok.ct
    omega
  · intro p hp
    unfold arrF at hp
    obtain ⟨q, hq, rfl⟩ := List.mem_map.mp hp
    have := pairsF_in ok q hq
    exact ⟨posS_lt this.1, posS_lt this.2⟩
theorem n0_at {b : Bd} (ok : b.Ok) : n0 b ∈ b.nodes ∧ posS b.nodes (n0 b) = 0 ∧ n1 b ∈ b.nodes ∧ posS b.nodes (n1 b) = 1 := by
  obtain ⟨_, nd, _, _⟩ := areNm_names ok.nodes
  obtain ⟨h0, h1, _⟩ := nodes01 ok
  exact ⟨List.mem_of_getElem? h0, posS_at nd h0, List.mem_of_getElem? h1, posS_at nd h1⟩
theorem swap_pair (zs : List Str) (ps : List (Str × Str)) : (ps.map (pairP zs)).map Prod.swap = (ps.map Prod.swap).map (pairP zs) := by
  rw [List.map_map, List.map_map]
  rfl
def spFedN (K : PySem.W.Frag) (N : Addr) (f : Bd → List Bool → List Bool) : Sp := fun vs H Q _ => ∃ (p m : Addr) (b : Bd) (on : List Bool), vs = [.ref p, .ref m] ∧ NetAt K N H p b ∧ b.Ok ∧ Sq K H m (on.map V.bl) ∧ on.length = b.movers.length ∧
  ∀ H' o, Same H H' → H o = none → H' o = some (.lst ((f b on).map V.bl)) → Q (.ref o) H'
theorem scFedN : FnScope ["self", "movers"] ["self", "movers"] (defScope sNetFedNodes) := ⟨rfl, rfl, rfl, by decide +kernel, rfl, by decide +kernel, by decide +kernel⟩
theorem ok_fedN {f fI fA fC fS N : Addr} {fd fdA fdC fdS : FuncData} {k : Nat} (F : Fun K "fed_nodes" "Net.fed_nodes" sNetFedNodes f fd) (TN : NTxt K N) (M : NetM K mg N fI fA) (FA : Fun K "_arrows" "Net._arrows" sNetArrows fA fdA) (bA : Binds K fdA ["self", "movers"] [])
    (FC : Fun K "closes" "closes" sCloses fC fdC) (bC : Binds K fdC ["contact", "on"] []) (gC : mg "closes" = some (.ref fC)) (FS : Fun K "_spread" "_spread" sSpread fS fdS) (bS : Binds K fdS ["start", "arrows", "size"] []) (gS : mg "_spread" = some (.ref fS)) (mr : mg "range" = none) :
    FnOk P w K mg base CX0 (k + 3) f fd ["self", "movers"] (spFedN K N fedM) := by
  have GA : FnOk P w K mg base CX0 (k + 2) fA fdA ["self", "movers"] (spArrows K N) := ok_arrows FA TN FC bC gC
  have GS : FnOk P w K mg base CX0 (k + 1) fS fdS ["start", "arrows", "size"] (spSpread K) := ok_spread FS mr
  obtain ⟨tP, gP⟩ := M.gP
  refine F.ok scFedN (fun vs H Q E h => ?_) (fun cdv A outer s H vs Q E hr h => ?_)
  · obtain ⟨p, m, b, on, rfl, _⟩ := h
    rfl
  · obtain ⟨p, m, b, on, rfl, hN, ok, hm, lon, q⟩ := h
    have hr1 : Room (k + 1) _ := hr.mono (by omega)
    refine ⟨_, pss_one (ps_ret (pe_call GS hr1 (by rfl) gS FS.kp bS .nil pass0 (pa_cons (pe_glob (v := .int 0) (by rfl) gP ⟨_, rfl⟩) (pa_cons (pe_meth (pv 0) TN.cl M.ma GA hr bA .nil pass0 (pa_cons (pv 1) pa_nil)) (pa_cons (pe_fld (pv 0) rfl) pa_nil))))), ?_⟩
    obtain ⟨dx, fs, ca, ba, la, xc, xb, xl, hp, fN⟩ := id hN
    obtain ⟨m0, e0, _, _⟩ := n0_at ok
    obtain ⟨_, nd, l2, l16⟩ := areNm_names ok.nodes
    obtain ⟨a1, a2⟩ := arrF_bound ok (on := on)
    refine ⟨_, rfl, p, dx, fs, rfl, hp, fN.only _ (by decide +kernel), _, rfl, p, m, b, on, rfl, hN, ok, hm, lon, fun H1 o ys s1 no ho hR => ?_⟩
    refine ⟨_, rfl, p, N, dx, fs, _, rfl, s1 _ _ hp, TN.cl, TN.n1, fN.l1, 0, b.nodes.length, o, ys, _, rfl, by omega, by omega, ho, hR, a1, a2, fun H2 o2 fl s2 no2 ho2 hlen hfl => ?_⟩
    refine q H2 o2 (s1.trans s2) (s1.free no2) ?_
    rw [ho2]
    have hfl' : ∀ j, fl[j]? = some true ↔ NPath ((pairsF b on b.contacts.length).map (pairP b.nodes)) (posS b.nodes (n0 b)) j := by
      rw [e0]
      exact hfl
    rw [marks_eq nd (pairsF_in ok) m0 hlen hfl']
    rfl
/-! ### fed, feeds, is_short -/
def StAt (K : PySem.W.Frag) (H : Hp) (st : Addr) (b : Bd) (on : List Bool) (u : Bool) : Prop := ∃ tt, SqT K H st [.ref tt, .bl u] ∧ SqT K H tt (on.map V.bl) ∧ on.length = b.movers.length
theorem StAt.mono {H H' : Hp} {st : Addr} {b : Bd} {on : List Bool} {u : Bool} (s : Same H H') : StAt K H st b on u → StAt K H' st b on u
  | ⟨tt, h1, h2, h3⟩ => ⟨tt, Same.sqt s h1, Same.sqt s h2, h3⟩
theorem scShort : FnScope ["board", "state"] ["board", "state"] (defScope sIsShort) := ⟨rfl, rfl, rfl, by decide +kernel, rfl, by decide +kernel, by decide +kernel⟩
def spShort (K : PySem.W.Frag) (C : Addr) : Sp := fun vs H Q _ => ∃ (pb st : Addr) (b : Bd) (on : List Bool) (u : Bool), vs = [.ref pb, .ref st] ∧ BoardAt K C H pb b ∧ b.Ok ∧ Few b ∧ StAt K H st b on u ∧ ∀ H', Same H H' → Q (.bl (shortF b on)) H'
theorem ok_short {f fI fN fA C N sp sg : Addr} {mc : Value} {fd fdI fdN : FuncData} {k : Nat} (F : Fun K "is_short" "is_short" sIsShort f fd) (T : BTxt K mg C mc sp sg) (TN : NTxt K N) (M : NetM K mg N fI fA) (bI : Binds K fdI ["self", "board"] [])
    (GI : FnOk P w K mg base CX0 (k + 3) fI fdI ["self", "board"] (spNetI K C N)) (mN : Meth K N "fed_nodes" fN) (bN : Binds K fdN ["self", "movers"] []) (GN : FnOk P w K mg base CX0 (k + 3) fN fdN ["self", "movers"] (spFedN K N fedM)) :
    FnOk P w K mg base CX0 (k + 5) f fd ["board", "state"] (spShort K C) := by
  obtain ⟨tM, gM⟩ := M.gM
  refine F.ok scShort (fun vs H Q E h => ?_) (fun cdv A outer s H vs Q E hr h => ?_)
  · obtain ⟨pb, st, b, on, u, rfl, _⟩ := h
    rfl
  · obtain ⟨pb, st, b, on, u, rfl, hB, ok, few, ⟨tt, h1, h2, h3⟩, q⟩ := h
    have hr3 : Room (k + 3) _ := hr.mono (by omega)
    refine ⟨_, pss_one (ps_ret (pe_ix ix_list (pe_meth (pe_make M.make GI hr (by rfl) M.mgN bI .nil pass0 (pa_cons (pv 0) pa_nil)) TN.cl mN GN hr3 bN .nil pass0 (pa_cons (pe_ix ix_tup (pv 1) pe_int (fun _ _ => rfl)) pa_nil)) (pe_glob (v := .int 1) (by rfl) gM ⟨_, rfl⟩) (fun _ _ => rfl))), ?_⟩
    obtain ⟨_, z1, _⟩ := nodes01 ok
    refine ⟨_, rfl, fun x dx nx ndx nex => ?_⟩
    have s0 := same_mut (o := .ins N dx []) (same_upd (o := .own x) ndx) nx
    refine ⟨x, dx, pb, H, b, rfl, upd_same, nx, s0, hB, ok, few, fun H1 s1 hN => ⟨rfl, ?_⟩⟩
    obtain ⟨dx2, fs2, ca, ba, la, xc2, xb2, xl2, hp2, fN2⟩ := id hN
    refine ⟨x, dx2, fs2, rfl, hp2, fN2.only _ (by decide +kernel), _, rfl, st, _, 0, _, rfl, rfl, Same.sqt s1 h1, rfl, x, tt, b, on, rfl, hN, ok, .inr (Same.sqt s1 h2), h3, fun H2 o s2 no ho => ?_⟩
    refine ⟨o, _, 1, .bl (shortF b on), rfl, rfl, sq ho, atI_nat (j := 1) ?_, q H2 (s1.trans s2)⟩
    unfold fedM
    rw [List.getElem?_map, List.getElem?_map, z1]
    rfl
/-! ### _is_live, Flow, Net.flow -/
def liveB (fl gl : List Bool) (p : Nat × Nat) : Bool := (fl.getD p.1 false && gl.getD p.2 false) || (fl.getD p.2 false && gl.getD p.1 false)
def spIsLive (K : PySem.W.Frag) : Sp := fun vs H Q _ => ∃ (e a c : Addr) (p : Nat × Nat) (fl gl : List Bool), vs = [.ref e, .ref a, .ref c] ∧ SqT K H e (arrV p) ∧ H a = some (.lst (fl.map V.bl)) ∧ H c = some (.lst (gl.map V.bl)) ∧ p.1 < fl.length ∧ p.2 < fl.length ∧ gl.length = fl.length ∧ Q (.bl (liveB fl gl p)) H
theorem scIsLive : FnScope ["ends", "fed_marks", "feeding", "one", "other"] ["ends", "fed_marks", "feeding"] (defScope sIsLive) := ⟨rfl, rfl, rfl, by decide +kernel, rfl, by decide +kernel, by decide +kernel⟩
theorem at_bl {fl : List Bool} {i : Nat} (h : i < fl.length) : atI (fl.map V.bl) (i : Int) = some (.bl (fl.getD i false)) := by
  refine atI_nat ?_
  rw [List.getElem?_map, List.getElem?_eq_getElem h, List.getD_eq_getElem?_getD, List.getElem?_eq_getElem h]
  rfl
theorem ok_isLive {f : Addr} {fd : FuncData} {k : Nat} (F : Fun K "_is_live" "_is_live" sIsLive f fd) : FnOk P w K mg base CX0 (k + 1) f fd ["ends", "fed_marks", "feeding"] (spIsLive K) := by
  refine F.ok scIsLive (fun vs H Q E h => ?_) (fun cdv A outer s H vs Q E hr h => ?_)
  · obtain ⟨e, a, c, p, fl, gl, rfl, _⟩ := h
    rfl
  · obtain ⟨e, a, c, p, fl, gl, rfl, he, ha, hc, l1, l2, l3, q⟩ := h
    refine ⟨_, (pss_cons (ps_asg (pv 0) (pg_tup rfl (pgs_cons (pg_name (i := 3) scIsLive.nd rfl (.inl rfl)) (pgs_cons (pg_name (i := 4) scIsLive.nd rfl (.inl rfl)) pgs_nil))))
      (pss_one (ps_ret (pe_or (pe_and (pe_ix ix_list (pv 1) (pv 3) (fun _ _ => rfl)) (pe_one (pe_ix ix_list (pv 2) (pv 4) (fun _ _ => rfl)))) (pe_one (pe_and (pe_ix ix_list (pv 1) (pv 4) (fun _ _ => rfl)) (pe_one (pe_ix ix_list (pv 2) (pv 3) (fun _ _ => rfl))))))))), ?_⟩
    refine ⟨_, rfl, e, _, rfl, he, rfl, _, _, rfl, _, _, rfl, rfl, ?_⟩
    unfold liveB at q
    refine ⟨_, rfl, _, rfl, a, _, _, _, rfl, rfl, sq ha, at_bl l1, _, rfl, ?_⟩
    have second : (Q (.bl (fl.getD p.2 false && gl.getD p.1 false)) H) → ∃ v, [some (.ref e), some (.ref a), some (.ref c), some (natV p.1), some (natV p.2)][1]? = some (some v) ∧ ∃ v_1, [some (.ref e), some (.ref a), some (.ref c), some (natV p.1), some (natV p.2)][4]? = some (some v_1) ∧ rIxL K v v_1 H fun x H1 => ∃ c1, x = .bl c1 ∧ if c1 = true then tOp (rIxL K) (tVar 2) (tVar 3) [some (.ref e), some (.ref a), some (.ref c), some (natV p.1), some (natV p.2)] H1 Q else Q (.bl false) H1 := by
      intro q
      refine ⟨_, rfl, _, rfl, a, _, _, _, rfl, rfl, sq ha, at_bl l2, _, rfl, ?_⟩
      cases e2 : fl.getD p.2 false with
      | true =>
        rw [e2, Bool.true_and] at q
        refine iteT ?_
        exact ⟨_, rfl, _, rfl, c, _, _, _, rfl, rfl, sq hc, at_bl (by omega), q⟩
      | false =>
        rw [e2, Bool.false_and] at q
        refine iteF ?_
        exact q
    cases e1 : fl.getD p.1 false with
    | true =>
      rw [e1, Bool.true_and] at q
      refine iteT ?_
      refine ⟨_, rfl, _, rfl, c, _, _, _, rfl, rfl, sq hc, at_bl (by omega), _, rfl, ?_⟩
      cases e3 : gl.getD p.2 false with
      | true =>
        rw [e3, Bool.true_or] at q
        refine iteT ?_
        exact q
      | false =>
        rw [e3, Bool.false_or] at q
        refine iteF ?_
        exact second q
    | false =>
      rw [e1, Bool.false_and, Bool.false_or] at q
      refine iteF ?_
      refine ⟨_, rfl, ?_⟩
      refine iteF ?_
      exact second q
structure WTxt (K : PySem.W.Frag) (W : Addr) : Prop where
  cl : Cls K W
  n1 : NoAttr K W "short"
  n2 : NoAttr K W "coils"
  n3 : NoAttr K W "bulbs"
/-- the flow at p: the short, the coils and lamps that are live -/
def FlowAt (K : PySem.W.Frag) (W : Addr) (H : Hp) (p : Addr) (sh : Bool) (cl bl : List Bool) : Prop := ∃ (dx ca ba : Addr) (fs : List (Str × V)), H p = some (.ins W dx fs) ∧ fs.lookup ("short" : Str) = some (.bl sh) ∧ fs.lookup ("coils" : Str) = some (.ref ca) ∧ fs.lookup ("bulbs" : Str) = some (.ref ba) ∧ H ca = some (.lst (cl.map V.bl)) ∧ H ba = some (.lst (bl.map V.bl))
theorem FlowAt.mono {W : Addr} {H H' : Hp} {p : Addr} {sh : Bool} {cl bl : List Bool} (s : Same H H') : FlowAt K W H p sh cl bl → FlowAt K W H' p sh cl bl
  | ⟨dx, ca, ba, fs, h1, h2, h3, h4, h5, h6⟩ => ⟨dx, ca, ba, fs, s _ _ h1, h2, h3, h4, s _ _ h5, s _ _ h6⟩
def spFlowI (K : PySem.W.Frag) (W : Addr) : Sp := fun vs H Q _ => ∃ (p dx ca ba : Addr) (sh : Bool) (cl bl : List Bool), vs = [.ref p, .bl sh, .ref ca, .ref ba] ∧ H p = some (.ins W dx []) ∧ H ca = some (.lst (cl.map V.bl)) ∧ H ba = some (.lst (bl.map V.bl)) ∧
  ∀ H', KeepP p H H' → FlowAt K W H' p sh cl bl → Q .non H'
theorem scFlowI : FnScope ["self", "short", "coils", "bulbs"] ["self", "short", "coils", "bulbs"] (defScope sFlowInit) := ⟨rfl, rfl, rfl, by decide +kernel, rfl, by decide +kernel, by decide +kernel⟩
theorem ok_flowI {f W : Addr} {fd : FuncData} {k : Nat} (F : Fun K "__init__" "Flow.__init__" sFlowInit f fd) (TW : WTxt K W) : FnOk P w K mg base CX0 (k + 1) f fd ["self", "short", "coils", "bulbs"] (spFlowI K W) := by
  refine F.ok scFlowI (fun vs H Q E h => ?_) (fun cdv A outer s H vs Q E hr h => ?_)
  · obtain ⟨p, dx, ca, ba, sh, cl, bl, rfl, _⟩ := h
    rfl
  · obtain ⟨p, dx, ca, ba, sh, cl, bl, rfl, hp, hc, hb, q⟩ := h
    refine ⟨_, (pss_cons (ps_fld (pv 0) (pv 1) rfl)
      (pss_cons (ps_fld (pv 0) (pv 2) rfl)
      (pss_one (ps_fld (pv 0) (pv 3) rfl)))), ?_⟩
    have l1 : (putF "short" (.bl sh) ([] : List (Str × V))).length ≤ 1 := putF_len _ _ []
    have l2 := putF_len "coils" (.ref ca) (putF "short" (.bl sh) ([] : List (Str × V)))
    refine ⟨_, rfl, _, rfl, p, W, dx, _, rfl, hp, TW.cl, TW.n1, by decide, ?_⟩
    refine ⟨_, rfl, _, rfl, p, W, dx, _, rfl, upd_same, TW.cl, TW.n2, by omega, ?_⟩
    refine ⟨_, rfl, _, rfl, p, W, dx, _, rfl, upd_same, TW.cl, TW.n3, by omega, ?_⟩
    have kp : KeepP p H (upd (upd (upd H p (.ins W dx (putF "short" (.bl sh) []))) p (.ins W dx (putF "coils" (.ref ca) (putF "short" (.bl sh) [])))) p (.ins W dx (putF "bulbs" (.ref ba) (putF "coils" (.ref ca) (putF "short" (.bl sh) []))))) := (KeepP.upd.trans KeepP.upd).trans KeepP.upd
    refine q _ kp ⟨dx, ca, ba, _, upd_same, ?_, ?_, ?_, kp _ _ (ne_of hc hp (by intro z; cases z)) hc, kp _ _ (ne_of hb hp (by intro z; cases z)) hb⟩
    · rw [lookup_putF, lookup_putF, lookup_putF, if_neg (by decide +kernel), if_neg (by decide +kernel), if_pos rfl]
    · rw [lookup_putF, lookup_putF, if_neg (by decide +kernel), if_pos rfl]
    · rw [lookup_putF, if_pos rfl]
def liveN (b : Bd) (on : List Bool) (r : Sp3) : Bool := (decide (r.one ∈ fedF b on) && decide (r.oth ∈ feedF b on)) || (decide (r.oth ∈ fedF b on) && decide (r.one ∈ feedF b on))
def liveM (b : Bd) (on : List Bool) (rs : List Sp3) : List Bool := rs.map (liveN b on)
theorem getD_pos {zs : List Str} {f : Str → Bool} {z : Str} (h : z ∈ zs) : (zs.map f).getD (posS zs z) false = f z := by
  rw [List.getD_eq_getElem?_getD, List.getElem?_map, (posS_ok h).1]
  rfl
theorem liveB_N {b : Bd} {on : List Bool} {r : Sp3} (h1 : r.one ∈ b.nodes) (h2 : r.oth ∈ b.nodes) : liveB (fedM b on) (feedM b on) (pairN b.nodes r) = liveN b on r := by
  unfold liveB liveN fedM feedM pairN
  dsimp only
  rw [getD_pos h1, getD_pos h2, getD_pos h1, getD_pos h2]
theorem live_loop {K : PySem.W.Frag} {H1 : Hp} {ca a c D : Addr} {b : Bd} {on : List Bool} {xs : List V} {rs : List Sp3} {vs : List Nat} {σ : L2.St} {Qd : Hp → Prop} (hca : H1 ca = some (.lst xs)) (ha : H1 a = some (.lst ((fedM b on).map V.bl))) (hc : H1 c = some (.lst ((feedM b on).map V.bl))) (hR : Rows K H1 xs ((rs.map (pairN b.nodes)).map arrV)) (hin : ∀ r ∈ rs, r.one ∈ b.nodes ∧ r.oth ∈ b.nodes) (hl : rs.length ≤ 1000) (nD : H1 D = none)
    (hw : ∀ x : V, wipe ((wipe σ vs).set 7 (some x)) vs = wipe σ vs) (g1 : ∀ x : V, ((wipe σ vs).set 7 (some x))[7]? = some (some x)) (g2 : ∀ x : V, ((wipe σ vs).set 7 (some x))[3]? = some (some (.ref a))) (g3 : ∀ x : V, ((wipe σ vs).set 7 (some x))[4]? = some (some (.ref c)))
    (hq : ∀ H2, Same H1 H2 → H2 D = some (.lst ((liveM b on rs).map V.bl)) → Qd H2) :
    ∃ W : Nat → Nat → Hp → Prop, (∃ m, W 0 m (upd H1 D (.lst []))) ∧ ∀ i m H, W i m H →
      ((Itl K ca).stop i H ∧ Qd H) ∨ ((Itl K ca).go i H ∧ ∃ Nx : Hp → Prop, (∀ H', Nx H' → ∃ m', m' < m ∧ W (i + 1) m' H') ∧ ∀ x H', (Itl K ca).yld i H x H' → gName 7 x (wipe σ vs) H' fun σ2 H2 => wipe σ2 vs = wipe σ vs ∧ tYes σ2 H2 fun b H3 =>
        if b = true then tCall (spIsLive K) [] E0 (tCons (tVar 7) (tCons (tVar 3) (tCons (tVar 4) tNil))) σ2 H3 fun y H4 => ∃ acc, H4 D = some (.lst acc) ∧ acc.length < sizeLine ∧ Nx (upd H4 D (.lst (acc ++ [y]))) else Nx H3) := by
  have lx := hR.len
  rw [List.length_map, List.length_map] at lx
  refine lc_list (K := K) (a := ca) (xs := xs) (fun i G => Same H1 G ∧ G D = some (.lst ((liveM b on (rs.take i)).map V.bl))) ⟨same_upd nD, upd_same⟩ (fun i G _ h => sq (h.1 _ _ hca)) ?_ ?_
  · rintro i v G hi ⟨sm, hd⟩
    obtain ⟨tt, rw_, rfl, hrow, hri⟩ := hR.at hi
    rw [List.getElem?_map, List.getElem?_map] at hri
    obtain ⟨p, hp, rfl⟩ := Option.map_eq_some_iff.mp hri
    obtain ⟨r, hr, rfl⟩ := Option.map_eq_some_iff.mp hp
    obtain ⟨m1, m2⟩ := hin r (List.mem_of_getElem? hr)
    have lf : (fedM b on).length = b.nodes.length := by unfold fedM; rw [List.length_map]
    have lg : (feedM b on).length = b.nodes.length := by unfold feedM; rw [List.length_map]
    refine ⟨hw _, ?_⟩
    refine yesT ?_
    refine ⟨_, g1 _, _, g2 _, _, g3 _, tt, a, c, pairN b.nodes r, fedM b on, feedM b on, rfl, Same.sqt sm hrow, sm _ _ ha, sm _ _ hc, by rw [lf]; exact posS_lt m1, by rw [lf]; exact posS_lt m2, by rw [lf, lg], ?_⟩
    have hi2 := (List.getElem?_eq_some_iff.mp hr).1
    refine ⟨_, hd, ?_, same_mut sm nD, ?_⟩
    · unfold liveM
      rw [List.length_map, List.length_map, List.length_take]
      exact szlt (by omega)
    · rw [upd_same, liveB_N m1 m2]
      unfold liveM
      rw [List.take_add_one, hr, List.map_append, List.map_append]
      rfl
  · rintro G ⟨sm, hd⟩
    rw [lx, List.take_length] at hd
    exact hq G sm hd
def spFlow (K : PySem.W.Frag) (N W : Addr) : Sp := fun vs H Q _ => ∃ (p m : Addr) (b : Bd) (on : List Bool), vs = [.ref p, .ref m] ∧ NetAt K N H p b ∧ b.Ok ∧ Few b ∧ Sq K H m (on.map V.bl) ∧ on.length = b.movers.length ∧
  ∀ H' o, Same H H' → H o = none → FlowAt K W H' o (shortF b on) (liveM b on b.relays) (liveM b on b.lamps) → Q (.ref o) H'
theorem scFlow : FnScope ["self", "movers", "arrows", "fed_marks", "feeding", "coils", "bulbs", "ends"] ["self", "movers"] (defScope sNetFlow) := ⟨rfl, rfl, rfl, by decide +kernel, rfl, by decide +kernel, by decide +kernel⟩
theorem ok_flow {f fI fA fC fS fT fL fW N W : Addr} {fd fdA fdC fdS fdT fdL fdW : FuncData} {k : Nat} (F : Fun K "flow" "Net.flow" sNetFlow f fd) (TN : NTxt K N) (M : NetM K mg N fI fA) (FA : Fun K "_arrows" "Net._arrows" sNetArrows fA fdA) (bA : Binds K fdA ["self", "movers"] [])
    (FC : Fun K "closes" "closes" sCloses fC fdC) (bC : Binds K fdC ["contact", "on"] []) (gC : mg "closes" = some (.ref fC)) (FS : Fun K "_spread" "_spread" sSpread fS fdS) (bS : Binds K fdS ["start", "arrows", "size"] []) (gS : mg "_spread" = some (.ref fS)) (mr : mg "range" = none)
    (FT : Fun K "_turned" "_turned" sTurned fT fdT) (bT : Binds K fdT ["arrows"] []) (gT : mg "_turned" = some (.ref fT)) (FL : Fun K "_is_live" "_is_live" sIsLive fL fdL) (bL : Binds K fdL ["ends", "fed_marks", "feeding"] []) (gL : mg "_is_live" = some (.ref fL))
    (FW : Fun K "__init__" "Flow.__init__" sFlowInit fW fdW) (bW : Binds K fdW ["self", "short", "coils", "bulbs"] []) (MW : Mk K W fW) (TW : WTxt K W) (gW : mg "Flow" = some (.ref W)) : FnOk P w K mg base CX0 (k + 3) f fd ["self", "movers"] (spFlow K N W) := by
  have GA : FnOk P w K mg base CX0 (k + 2) fA fdA ["self", "movers"] (spArrows K N) := ok_arrows FA TN FC bC gC
  have GS : FnOk P w K mg base CX0 (k + 1) fS fdS ["start", "arrows", "size"] (spSpread K) := ok_spread FS mr
  have GT : FnOk P w K mg base CX0 (k + 1) fT fdT ["arrows"] (spTurned K) := ok_turned FT
  have GL : FnOk P w K mg base CX0 (k + 1) fL fdL ["ends", "fed_marks", "feeding"] (spIsLive K) := ok_isLive FL
  have GW : FnOk P w K mg base CX0 (k + 1) fW fdW ["self", "short", "coils", "bulbs"] (spFlowI K W) := ok_flowI FW TW
  obtain ⟨tP, gP⟩ := M.gP
  obtain ⟨tQ, gQ⟩ := M.gM
  refine F.ok scFlow (fun vs H Q E h => ?_) (fun cdv A outer s H vs Q E hr h => ?_)
  · obtain ⟨p, m, b, on, rfl, _⟩ := h
    rfl
  · obtain ⟨p, m, b, on, rfl, hN, ok, few, hm, lon, q⟩ := h
    have hr1 : Room (k + 1) _ := hr.mono (by omega)
    have hr2 := hr
    refine ⟨_, (pss_cons (ps_set (i := 2) scFlow.nd rfl (.inl rfl) (pe_meth (pv 0) TN.cl M.ma GA hr bA .nil pass0 (pa_cons (pv 1) pa_nil)))
      (pss_cons (ps_set (i := 3) scFlow.nd rfl (.inr rfl) (pe_call GS hr1 (by rfl) gS FS.kp bS .nil pass0 (pa_cons (pe_glob (v := .int 0) (by rfl) gP ⟨_, rfl⟩) (pa_cons (pv 2) (pa_cons (pe_fld (pv 0) rfl) pa_nil)))))
      (pss_cons (ps_set (i := 4) scFlow.nd rfl (.inr rfl) (pe_call GS hr1 (by rfl) gS FS.kp bS .nil pass0 (pa_cons (pe_glob (v := .int 1) (by rfl) gQ ⟨_, rfl⟩) (pa_cons (pe_call GT hr1 (by rfl) gT FT.kp bT .nil pass0 (pa_cons (pv 2) pa_nil)) (pa_cons (pe_fld (pv 0) rfl) pa_nil)))))
      (pss_cons (ps_setLc (i := 5) (own := [("ends", 7)]) (g := (gName 7)) (tt := tYes) (te := tCall (spIsLive K) [] E0 (tCons (tVar 7) (tCons (tVar 3) (tCons (tVar 4) tNil)))) rfl scFlow.nd rfl rfl (sw_true rfl rfl rfl (by decide +kernel)) (pi_list (pe_fld (pv 0) rfl)) (blkOk_by (N := ["self", "movers", "arrows", "fed_marks", "feeding", "coils", "bulbs", "ends"]) (sc := defScope sNetFlow) (by decide +kernel)) (fun _ _ _ _ _ => (pg_name (i := 7) scFlow.nd rfl (Or.inl rfl))) (fun _ _ _ _ _ => pts_nil) (fun _ _ _ _ _ => (pe_call GL hr1 (by rfl) gL FL.kp bL .nil pass0 (pa_cons (pv 7) (pa_cons (pv 3) (pa_cons (pv 4) pa_nil))))))
      (pss_cons (ps_setLc (i := 6) (own := [("ends", 7)]) (g := (gName 7)) (tt := tYes) (te := tCall (spIsLive K) [] E0 (tCons (tVar 7) (tCons (tVar 3) (tCons (tVar 4) tNil)))) rfl scFlow.nd rfl rfl (sw_true rfl rfl rfl (by decide +kernel)) (pi_list (pe_fld (pv 0) rfl)) (blkOk_by (N := ["self", "movers", "arrows", "fed_marks", "feeding", "coils", "bulbs", "ends"]) (sc := defScope sNetFlow) (by decide +kernel)) (fun _ _ _ _ _ => (pg_name (i := 7) scFlow.nd rfl (Or.inl rfl))) (fun _ _ _ _ _ => pts_nil) (fun _ _ _ _ _ => (pe_call GL hr1 (by rfl) gL FL.kp bL .nil pass0 (pa_cons (pv 7) (pa_cons (pv 3) (pa_cons (pv 4) pa_nil))))))
      (pss_one (ps_ret (pe_make MW GW hr2 (by rfl) gW bW .nil pass0 (pa_cons (pe_ix ix_list (pv 3) (pe_glob (v := .int 1) (by rfl) gQ ⟨_, rfl⟩) (fun _ _ => rfl)) (pa_cons (pv 5) (pa_cons (pv 6) pa_nil))))))))))), ?_⟩
    obtain ⟨dx, fs, ca, ba, la, xc, xb, xl, hp, fN⟩ := id hN
    obtain ⟨m0, e0, m1, e1⟩ := n0_at ok
    obtain ⟨_, nd, l2, l16⟩ := areNm_names ok.nodes
    obtain ⟨_, z1, _⟩ := nodes01 ok
    obtain ⟨a1, a2⟩ := arrF_bound ok (on := on)
    refine ⟨_, rfl, p, dx, fs, rfl, hp, fN.only _ (by decide +kernel), _, rfl, p, m, b, on, rfl, hN, ok, hm, lon, fun H1 o ys s1 no ho hR => ?_⟩
    refine ⟨_, rfl, _, rfl, p, N, dx, fs, _, rfl, s1 _ _ hp, TN.cl, TN.n1, fN.l1, 0, b.nodes.length, o, ys, _, rfl, by omega, by omega, ho, hR, a1, a2, fun H2 o2 fl s2 no2 ho2 hlen hfl => ?_⟩
    have hfl' : ∀ j, fl[j]? = some true ↔ NPath ((pairsF b on b.contacts.length).map (pairP b.nodes)) (posS b.nodes (n0 b)) j := by
      rw [e0]
      exact hfl
    have efl : fl = fedM b on := by
      rw [marks_eq nd (pairsF_in ok) m0 hlen hfl']
      rfl
    subst efl
    refine ⟨_, rfl, o, ys, _, rfl, s2 _ _ ho, hR.mono s2, a1, fun H3 o3 ys3 s3 no3 ho3 hR3 => ?_⟩
    have s13 := s1.trans (s2.trans s3)
    refine ⟨_, rfl, p, N, dx, fs, _, rfl, s13 _ _ hp, TN.cl, TN.n1, fN.l1, 1, b.nodes.length, o3, ys3, _, rfl, by omega, by omega, ho3, hR3, by rw [List.length_map]; exact a1, ?_, fun H4 o4 gl s4 no4 ho4 hlen4 hgl => ?_⟩
    · intro p hp
      obtain ⟨r, hr, rfl⟩ := List.mem_map.mp hp
      exact ⟨(a2 r hr).2, (a2 r hr).1⟩
    have hgl' : ∀ j, gl[j]? = some true ↔ NPath (((pairsF b on b.contacts.length).map Prod.swap).map (pairP b.nodes)) (posS b.nodes (n1 b)) j := by
      rw [e1, ← swap_pair]
      exact hgl
    have hin : ∀ p ∈ (pairsF b on b.contacts.length).map Prod.swap, p.1 ∈ b.nodes ∧ p.2 ∈ b.nodes := by
      intro p hp
      obtain ⟨r, hr, rfl⟩ := List.mem_map.mp hp
      have := pairsF_in ok r hr
      exact ⟨this.2, this.1⟩
    have egl : gl = feedM b on := by
      rw [marks_eq nd hin m1 hlen4 hgl']
      rfl
    subst egl
    have s14 := s13.trans s4
    have ho2' := (s3.trans s4) _ _ ho2
    -- coils
    refine ⟨_, rfl, p, N, dx, fs, _, rfl, s14 _ _ hp, TN.cl, TN.n2, fN.l2, ca, rfl, ⟨_, sq (s14 _ _ fN.h2)⟩, fun D5 nD5 => ?_⟩
    refine live_loop (s14 _ _ fN.h2) ho2' ho4 (fN.r2.mono s14) (fun r hr => spanB_in (ok.spR r hr)) (by have := ok.rl; omega) nD5 (fun _ => rfl) (fun _ => rfl) (fun _ => rfl) (fun _ => rfl) fun H5 s5 hD5 => ?_
    have s15 := s14.trans s5
    -- bulbs
    refine ⟨_, rfl, p, N, dx, fs, _, rfl, s15 _ _ hp, TN.cl, TN.n3, fN.l3, ba, rfl, ⟨_, sq (s15 _ _ fN.h3)⟩, fun D6 nD6 => ?_⟩
    refine live_loop (s15 _ _ fN.h3) (s5 _ _ ho2') (s5 _ _ ho4) (fN.r3.mono s15) (fun r hr => spanB_in (ok.spL r hr)) few.l nD6 (fun _ => rfl) (fun _ => rfl) (fun _ => rfl) (fun _ => rfl) fun H6 s6 hD6 => ?_
    have s16 := s15.trans s6
    have hf6 := s6 _ _ (s5 _ _ ho2')
    refine ⟨_, rfl, o2, _, 1, .bl (shortF b on), rfl, rfl, sq hf6, atI_nat (j := 1) ?_, _, rfl, _, rfl, fun x dx2 nx ndx nex => ?_⟩
    · unfold fedM
      rw [List.getElem?_map, List.getElem?_map, z1]
      rfl
    have s0 := same_mut (o := .ins W dx2 []) (same_upd (o := .own x) ndx) nx
    refine ⟨x, dx2, D5, D6, _, _, _, rfl, upd_same, s0 _ _ (s6 _ _ hD5), s0 _ _ hD6, fun H7 k7 hW => ⟨rfl, ?_⟩⟩
    exact q H7 x (s16.trans fun y z h => k7 y z (ne_of_none h nx) (s0 y z h)) (s16.free nx) hW
/-! ### dicts whose keys are nested tuples (KE.KeyNested), as .ext objects -/
end
section
open PySem.SeqAt
mutual
/-- the value v is such a key -/
inductive NKV (K : PySem.W.Frag) (H : Hp) : NestedKey → V → Prop
  | non : NKV K H .none .non
  | bl (x : Bool) : NKV K H (.num (if x = true then 1 else 0)) (.bl x)
  | int (i : Int) : NKV K H (.num i) (.int i)
  | str (z : Str) : NKV K H (.text z) (.str z)
  | tup {b : Addr} {vs : List V} {ks : List NestedKey} : SqT K H b vs → NKVs K H ks vs → NKV K H (.tup ks) (.ref b)
inductive NKVs (K : PySem.W.Frag) (H : Hp) : List NestedKey → List V → Prop
  | nil : NKVs K H [] []
  | cons {k : NestedKey} {v : V} {ks : List NestedKey} {vs : List V} : NKV K H k v → NKVs K H ks vs → NKVs K H (k :: ks) (v :: vs)
end
mutual
theorem nk_mono {K : PySem.W.Frag} {H H' : Hp} (s : ∀ b xs, SqT K H b xs → SqT K H' b xs) : ∀ (k : NestedKey) (v : V), NKV K H k v → NKV K H' k v
  | .none, _, h => by cases h; exact .non
  | .num _, _, h => by
    cases h with
    | bl x => exact .bl x
    | int => exact .int _
  | .text _, _, h => by cases h; exact .str _
  | .tup ks, _, h => by
    cases h with
    | tup hs hk => exact .tup (s _ _ hs) (nks_mono s ks _ hk)
theorem nks_mono {K : PySem.W.Frag} {H H' : Hp} (s : ∀ b xs, SqT K H b xs → SqT K H' b xs) : ∀ (ks : List NestedKey) (vs : List V), NKVs K H ks vs → NKVs K H' ks vs
  | [], _, h => by cases h; exact .nil
  | k :: ks, _, h => by
    cases h with
    | cons h1 h2 => exact .cons (nk_mono s k _ h1) (nks_mono s ks _ h2)
end
mutual
theorem nk_is {X : Cx} {pins : List (Addr × Obj)} {σ : L2.St} {H : Hp} {s : Shared} (I : Inv X pins σ H s) : ∀ (k : NestedKey) (v : V) (u : Value), NKV X.K H k v → RelV v u → NestedIs s.heap k u
  | .none, _, u, h, r => by
    cases h
    obtain rfl : u = Value.none := r
    exact .none
  | .num _, _, u, h, r => by
    cases h with
    | bl x =>
      obtain rfl : u = Value.bool x := r
      exact .bool rfl
    | int =>
      obtain ⟨t, rfl⟩ := (show ∃ t, u = Value.int _ t from r)
      exact .int _ t
  | .text x, _, u, h, r => by
    cases h
    obtain ⟨t, rfl⟩ := (show ∃ t, u = Value.str x t from r)
    exact .text x t
  | .tup ks, _, u, h, r => by
    cases h with
    | @tup b vs _ hs hk =>
      obtain rfl : u = Value.ref b := r
      obtain ⟨its, rv, ⟨o, h1, h2, n, h3⟩, _⟩ := I.tuple hs
      exact .tup h1 h2 h3 (by simpa using nks_is I ks vs its hk rv)
theorem nks_is {X : Cx} {pins : List (Addr × Obj)} {σ : L2.St} {H : Hp} {s : Shared} (I : Inv X pins σ H s) : ∀ (ks : List NestedKey) (vs : List V) (us : List Value), NKVs X.K H ks vs → Vals vs us → NestedAll s.heap ks us
  | [], _, _, h, r => by
    cases h
    cases r
    exact .nil
  | k :: ks, _, _, h, r => by
    cases h with
    | cons h1 h2 =>
      cases r with
      | cons r1 r2 => exact .cons (nk_is I k _ _ h1 r1) (nks_is I ks _ _ h2 r2)
end
/-- the abstract entries and the real ones -/
abbrev NT (K : PySem.W.Frag) (H : Hp) : List (NestedKey × V) → List (NestedKey × Addr × Value) → Prop := Paired fun p q => p.1 = q.1 ∧ (NKV K H p.1 (.ref q.2.1) ∧ p.1.depth ≤ 8) ∧ RelV p.2 q.2.2
theorem NT.val {K : PySem.W.Frag} {H : Hp} {kvs : List (NestedKey × V)} {xs : List (NestedKey × Addr × Value)} (r : NT K H kvs xs) (k : NestedKey) : RelO (valV kvs k) ((atKey xs k).map (·.2)) := by
  induction r with
  | nil => exact True.intro
  | @cons p q ps qs h t ih =>
    obtain ⟨h1, _, h2⟩ := h
    by_cases e : p.1 = k
    · have e' : q.1 = k := h1.symm.trans e
      have b : atKey (q :: qs) k = some q.2 := by simp [atKey, List.find?_cons, e']
      rw [valV_pos e, b]
      exact h2
    · have e' : ¬ q.1 = k := fun z => e (h1.trans z)
      have b : atKey (q :: qs) k = atKey qs k := by simp [atKey, List.find?_cons, e']
      rw [valV_neg e, b]
      exact ih
theorem NT.repl {K : PySem.W.Frag} {H : Hp} {kvs : List (NestedKey × V)} {xs : List (NestedKey × Addr × Value)} (r : NT K H kvs xs) (k : NestedKey) {y : V} {u : Value} (ry : RelV y u) :
    NT K H (kvs.map fun kv => if kv.1 = k then (kv.1, y) else kv) (xs.map (putAt k u)) := by
  induction r with
  | nil => exact .nil
  | @cons p q ps qs h t ih =>
    rw [List.map_cons, List.map_cons]
    refine .cons ?_ ih
    obtain ⟨h1, h2, h3⟩ := h
    unfold putAt
    by_cases e : p.1 = k
    · rw [if_pos e, if_pos (h1.symm.trans e)]
      exact ⟨h1, h2, ry⟩
    · rw [if_neg e, if_neg (fun z => e (h1.trans z))]
      exact ⟨h1, h2, h3⟩
theorem NT.put {K : PySem.W.Frag} {H : Hp} {kvs : List (NestedKey × V)} {xs : List (NestedKey × Addr × Value)} (r : NT K H kvs xs) (k : NestedKey) {b : Addr} {y : V} {u : Value} (hb : NKV K H k (.ref b)) (hd : k.depth ≤ 8) (ry : RelV y u) :
    NT K H (putK kvs k y) (storedH xs k b u) := by
  have e : (kvs.any fun kv => decide (kv.1 = k)) = (atKey xs k).isSome := by
    rw [valV_any, (r.val k).isSome_eq, Option.isSome_map]
  unfold putK storedH
  rw [e]
  by_cases q : (atKey xs k).isSome = true
  · rw [if_pos q, if_pos q]
    exact r.repl k ry
  · rw [if_neg q, if_neg q]
    exact Paired.snoc r ⟨rfl, ⟨hb, hd⟩, ry⟩
theorem NT.mono {K : PySem.W.Frag} {H H' : Hp} {kvs : List (NestedKey × V)} {xs : List (NestedKey × Addr × Value)} (s : ∀ b xs, SqT K H b xs → SqT K H' b xs) (r : NT K H kvs xs) : NT K H' kvs xs :=
  Paired.mapP r fun _ _ z => ⟨z.1, ⟨nk_mono s _ _ z.2.1.1, z.2.1.2⟩, z.2.2⟩
theorem NT.all {X : Cx} {pins : List (Addr × Obj)} {σ : L2.St} {H : Hp} {s : Shared} (I : Inv X pins σ H s) {kvs : List (NestedKey × V)} {xs : List (NestedKey × Addr × Value)} (r : NT X.K H kvs xs) : ∀ x ∈ xs, (nestedKind X.prog X.w).is s.heap x.1 x.2.1 := by
  induction r with
  | nil => intro x hx; exact nomatch hx
  | @cons p q ps qs h t ih =>
    intro x hx
    rcases List.mem_cons.mp hx with e | hx
    · subst e
      obtain ⟨h1, ⟨h2, h3⟩, _⟩ := h
      rw [← h1]
      exact ⟨nk_is I _ _ _ h2 rfl, h3⟩
    · exact ih x hx
/-- the object at d, its entries told -/
def ndo (P : Program) (w : World) (d : Addr) (xs : List (NestedKey × Addr × Value)) : HO := .ext fun h => ∃ o es ep, h.get? d = some o ∧ o.ExactDict ∧ o.data = .dict es ep ∧ es.toList = xs.map (entryOfKey (nestedKind P w))
theorem ndo_ok {P : Program} {w : World} {H : Hp} {h : Heap} {d : Addr} {xs : List (NestedKey × Addr × Value)} {o : Obj} {es : Array DictEntry} {ep : Nat} (e : h.get? d = some o) (ex : o.ExactDict) (dt : o.data = .dict es ep) (el : es.toList = xs.map (entryOfKey (nestedKind P w))) : ObjOk P w H h d (ndo P w d xs) :=
  ⟨⟨o, es, ep, e, ex, dt, el⟩, ⟨o, e⟩, fun _ _ ⟨o1, es1, ep1, e1, r⟩ k => ⟨o1, es1, ep1, k _ e1, r⟩⟩
/-- the dict at d holds kvs -/
def ND (P : Program) (w : World) (K : PySem.W.Frag) (H : Hp) (d : Addr) (kvs : List (NestedKey × V)) : Prop := ∃ xs, H d = some (ndo P w d xs) ∧ NT K H kvs xs ∧ (xs.map (·.1)).Nodup ∧ (d == sysModules) = false ∧ kvs.length ≤ 100000
theorem ND.mono {P : Program} {w : World} {K : PySem.W.Frag} {H H' : Hp} {d : Addr} {kvs : List (NestedKey × V)} (s : ∀ b xs, SqT K H b xs → SqT K H' b xs) (hd : ∀ o, H d = some o → H' d = some o) : ND P w K H d kvs → ND P w K H' d kvs
  | ⟨xs, h1, h2, h3⟩ => ⟨xs, hd _ h1, h2.mono s, h3⟩
theorem ND.nil {P : Program} {w : World} {K : PySem.W.Frag} {H : Hp} {d : Addr} (h : H d = some (ndo P w d [])) (hs : (d == sysModules) = false) : ND P w K H d [] := ⟨[], h, .nil, List.nodup_nil, hs, Nat.zero_le _⟩
theorem nd_of {X : Cx} {pins : List (Addr × Obj)} {σ : L2.St} {H : Hp} {s : Shared} {d : Addr} {kvs : List (NestedKey × V)} (I : Inv X pins σ H s) (h : ND X.prog X.w X.K H d kvs) :
    ∃ xs, H d = some (ndo X.prog X.w d xs) ∧ NT X.K H kvs xs ∧ s.heap.DictOfH (nestedKind X.prog X.w) d xs ∧ (d == sysModules) = false ∧ xs.length ≤ sizeLine := by
  obtain ⟨xs, h1, h2, h3, h4, h5⟩ := h
  obtain ⟨⟨o, es, ep, e1, e2, e3, e4⟩, _⟩ := (show ObjOk X.prog X.w H s.heap d (ndo X.prog X.w d xs) from I.hok d _ h1)
  refine ⟨xs, h1, h2, ⟨o, es, ep, e1, e2, e3, e4, h2.all I, h3⟩, h4, ?_⟩
  rw [← Paired.length h2, sizeLine_eq]
  omega
variable {X : Cx}
/-- {} -/
def tDNewN (P : Program) (w : World) : TE := fun _ H Q => ∀ p, H p = none → (p == sysModules) = false → Q (.ref p) (upd H p (ndo P w p []))
theorem pe_dnewN {pos : Pos} : PE X (.Dict [] [] pos) (tDNewN X.prog X.w) := ⟨fun pins s σ H Q I h =>
  wpAny_Dict_empty ⟨.ref s.heap.objs.size, _, I.laid (a := s.heap.objs.size) (o := ndo X.prog X.w s.heap.objs.size []) (t' := s.toks) (fun _ _ q => Heap.get?_push_of_some _ q) (Nat.le_refl _) (ndo_ok (es := #[]) (ep := 0) (Heap.get?_push_size _ rfl) ⟨rfl, rfl, rfl⟩ rfl rfl), rfl,
    h _ (I.hok.fresh (Nat.le_refl _)) (beq_eq_false_iff_ne.mpr (Ne.symm (Nat.ne_of_lt I.big)))⟩⟩
/-- y not in d -/
def tDNotInN (P : Program) (w : World) (K : PySem.W.Frag) (ty td : TE) : TE := fun σ H Q => ty σ H fun y H1 => td σ H1 fun x H2 => ∃ d b k kvs, x = .ref d ∧ y = .ref b ∧ ND P w K H2 d kvs ∧ NKV K H2 k (.ref b) ∧ k.depth ≤ 8 ∧ Q (.bl (!(valV kvs k).isSome)) H2
theorem pc_dnotinN {i o : Expr} {ty td : TE} (hu : X.A.units + 100 < cLine) (hi : PE X i ty) (ho : PE X o td) : PC X .NotIn i o (tDNotInN X.prog X.w X.K ty td) := by
  refine ⟨fun pins s σ H Q I h => ?_⟩
  refine thn (hi.run pins s σ H _ I h) fun iv s1 ⟨y, H1, I1, ry, q1⟩ => thn (ho.run pins s1 σ H1 _ I1 q1) fun u s2 ⟨x, H2, I2, rx, d, b, k, kvs, ex, ey, hd, hk, h8, q2⟩ => ?_
  subst ex
  subst ey
  obtain rfl : u = Value.ref d := rx
  obtain rfl : iv = Value.ref b := ry
  obtain ⟨xs, e1, rel, dd, hs, hz⟩ := nd_of I2 hd
  refine wpAny_notIn_heap (knd := nestedKind X.prog X.w) (show X.A.in1.units + 8 < cLine by show X.A.units + 1 + 8 < cLine; omega) ⟨nk_is I2 k _ _ hk rfl, h8⟩ hs dd ?_
  have q := (rel.val k).isSome_eq
  rw [Option.isSome_map] at q
  rw [← q]
  exact ⟨.bl (!(valV kvs k).isSome), H2, I2.tok _, rfl, q2⟩
/-- d[y] -/
def tDGetE (P : Program) (w : World) (K : PySem.W.Frag) (td ty : TE) : TE := fun σ H Q => td σ H fun x H1 => ty σ H1 fun y H2 => ∃ d b k kvs v, x = .ref d ∧ y = .ref b ∧ ND P w K H2 d kvs ∧ NKV K H2 k (.ref b) ∧ k.depth ≤ 8 ∧ valV kvs k = some v ∧ Q v H2
theorem pe_dgetE {i o : Expr} {pos : Pos} {ty td : TE} (hu : X.A.units + 100 < cLine) (ho : PE X o td) (hi : PE X i ty) (hs : NoSl i) : PE X (.Subscript o i pos) (tDGetE X.prog X.w X.K td ty) := by
  refine ⟨fun pins s σ H Q I h => ?_⟩
  refine subD_of PySem.F.slot_dict_getitem.lookup hs (thn (ho.run pins s σ H _ I h) fun u s1 ⟨x, H1, I1, rx, q1⟩ => thn (hi.run pins s1 σ H1 _ I1 q1) fun iv s2 ⟨y, H2, I2, ry, d, b, k, kvs, v, ex, ey, hd, hk, h8, l, q2⟩ => ?_)
  subst ex
  subst ey
  obtain rfl : u = Value.ref d := rx
  obtain rfl : iv = Value.ref b := ry
  obtain ⟨xs, e1, rel, dd, _, hz⟩ := nd_of I2 hd
  obtain ⟨w', hw, rw'⟩ := RelO.some_of (v := v) (o := (atKey xs k).map (·.2)) (by rw [← l]; exact rel.val k)
  obtain ⟨p, hp, hp2⟩ := Option.map_eq_some_iff.mp hw
  refine ⟨dd.typeIs, wpAny_getItem_heap (knd := nestedKind X.prog X.w) (show X.A.in1.units + 8 < cLine by show X.A.units + 1 + 8 < cLine; omega) ⟨nk_is I2 k _ _ hk rfl, h8⟩ dd hp ?_⟩
  rw [hp2]
  exact ⟨v, H2, I2.tok _, rw', q2⟩
/-- d[y] = v -/
def sDPutN (P : Program) (w : World) (K : PySem.W.Frag) (td ty tv : TE) : TS := fun D σ H => tv σ H fun v H1 => td σ H1 fun x H2 => ty σ H2 fun y H3 => ∃ d b k kvs, x = .ref d ∧ y = .ref b ∧ ND P w K H3 d kvs ∧ NKV K H3 k (.ref b) ∧ k.depth ≤ 8 ∧ kvs.length < 100000 ∧
  ∀ H4, KeepP d H3 H4 → ND P w K H4 d (putK kvs k v) → D.nx σ H4
theorem ps_dputN {i o value : Expr} {pos pos' : Pos} {ty td tv : TE} (hu : X.A.units + 100 < cLine) (ho : PE X o td) (hi : PE X i ty) (hv : PE X value tv) (hs : swapsWith value (some (.Subscript o i pos')) pos.line X.env = pure false) :
    PS X (.Assign [.Subscript o i pos'] value pos) (sDPutN X.prog X.w X.K td ty tv) := by
  refine ⟨fun pins s σ H D I h => ?_⟩
  refine wpAny_Assign_Subscript (thn (hv.run pins s σ H _ I h) fun r s1 ⟨v, H1, I1, rv, q1⟩ => thn (ho.run pins s1 σ H1 _ I1 q1) fun u s2 ⟨x, H2, I2, rx, q2⟩ => thn (hi.run pins s2 σ H2 _ I2 q2) fun iv s3 ⟨y, H3, I3, ry, d, b, k, kvs, ex, ey, hd, hk, h8, hl, q3⟩ => ?_) hs
  subst ex
  subst ey
  obtain rfl : u = Value.ref d := rx
  obtain rfl : iv = Value.ref b := ry
  obtain ⟨xs, e1, rel, dd, hsm, hz⟩ := nd_of I3 hd
  refine wpAny_setItem_heap (knd := nestedKind X.prog X.w) (hsz := hz) (show X.A.in1.units + 8 < cLine by show X.A.units + 1 + 8 < cLine; omega) ⟨nk_is I3 k _ _ hk rfl, h8⟩ dd fun h' dd' sb => ?_
  obtain ⟨o', es, ep, hq, h2, h3, h4, _, h5⟩ := dd'
  have I4 := d_write (t' := s3.toks + (nestedKind X.prog X.w).draws k) I3 (by rw [e1]; exact True.intro) sb ⟨o', hq⟩ (ndo_ok (H := upd H3 d (ndo X.prog X.w d (storedH xs k b r))) hq h2 h3 h4)
  have keep : ∀ c ys, SqT X.K H3 c ys → SqT X.K (upd H3 d (ndo X.prog X.w d (storedH xs k b r))) c ys := fun c ys hc => by
    rcases hc with hc | hc
    · rcases hc with hc | ⟨o1, hc⟩
      · refine .inl (.inl ?_)
        rw [upd_ne (ne_of hc e1 (by unfold ndo; exact fun z => nomatch z))]
        exact hc
      · refine .inl (.inr ⟨o1, ?_⟩)
        rw [upd_ne (ne_of hc e1 (by unfold ndo; exact fun z => nomatch z))]
        exact hc
    · exact .inr hc
  refine ⟨σ, _, I4, q3 _ (fun c o hc ho => by rw [upd_ne hc]; exact ho) ⟨_, upd_same, (rel.put k hk h8 rv).mono keep, h5, hsm, ?_⟩⟩
  have := length_putK kvs k v
  omega
end
section
end
section
variable {P : Program} {w : World} {K : PySem.W.Frag} {mg : Str → Option Value} {base : Heap}
theorem names_loop {K : PySem.W.Frag} {H1 : Hp} {a D : Addr} {xs : List V} {rs : List Sp3} {vs : List Nat} {σ : L2.St} {Qd : Hp → Prop} {i0 i1 i2 : Nat} (hR : Rows K H1 xs (rs.map Sp3.row)) (hl : rs.length ≤ 1000) (ha : SqT K H1 a xs) (nD : H1 D = none)
    (hw : ∀ x y z : V, wipe ((((wipe σ vs).set i0 (some x)).set i1 (some y)).set i2 (some z)) vs = wipe σ vs) (g1 : ∀ x y z : V, ((((wipe σ vs).set i0 (some x)).set i1 (some y)).set i2 (some z))[i0]? = some (some x))
    (hq : ∀ H2, Same H1 H2 → H2 D = some (.lst ((rs.map Sp3.nm).map V.str)) → Qd H2) :
    ∃ W : Nat → Nat → Hp → Prop, (∃ m, W 0 m (upd H1 D (.lst []))) ∧ ∀ i m H, W i m H →
      ((Itt K a).stop i H ∧ Qd H) ∨ ((Itt K a).go i H ∧ ∃ Nx : Hp → Prop, (∀ H', Nx H' → ∃ m', m' < m ∧ W (i + 1) m' H') ∧ ∀ x H', (Itt K a).yld i H x H' → gTup K 3 (gCons (gName i0) (gCons (gName i1) (gCons (gName i2) gNil))) x (wipe σ vs) H' fun σ2 H2 => wipe σ2 vs = wipe σ vs ∧ tYes σ2 H2 fun b H3 =>
        if b = true then tVar i0 σ2 H3 fun y H4 => ∃ acc, H4 D = some (.lst acc) ∧ acc.length < sizeLine ∧ Nx (upd H4 D (.lst (acc ++ [y]))) else Nx H3) := by
  have lx := hR.len
  rw [List.length_map] at lx
  refine lc_tup (K := K) (a := a) (xs := xs) (fun i G => Same H1 G ∧ G D = some (.lst (((rs.take i).map Sp3.nm).map V.str))) ⟨same_upd nD, upd_same⟩ (fun i G _ h => Same.sqt h.1 ha) ?_ ?_
  · rintro i v G hi ⟨sm, hd⟩
    obtain ⟨tt, rw_, rfl, hrow, hri⟩ := hR.at hi
    rw [List.getElem?_map] at hri
    obtain ⟨r, hr, rfl⟩ := Option.map_eq_some_iff.mp hri
    have hi2 := (List.getElem?_eq_some_iff.mp hr).1
    refine ⟨tt, _, rfl, Same.sqt sm hrow, rfl, _, _, rfl, _, _, rfl, _, _, rfl, rfl, hw _ _ _, ?_⟩
    refine yesT ?_
    refine ⟨_, g1 _ _ _, _, hd, ?_, same_mut sm nD, ?_⟩
    · rw [List.length_map, List.length_map, List.length_take]
      exact szlt (by omega)
    · rw [upd_same, List.take_add_one, hr, List.map_append, List.map_append]
      rfl
  · rintro G ⟨sm, hd⟩
    rw [lx, List.take_length] at hd
    exact hq G sm hd
/-! ### Machine -/
def rmv (H : Hp) (a : Addr) : Hp := fun b => if b = a then none else H b
theorem rmv_ne {H : Hp} {a b : Addr} (h : b ≠ a) : rmv H a b = H b := if_neg h
theorem rmv_upd {H : Hp} {a : Addr} {o : HO} : rmv (upd H a o) a = rmv H a := by
  funext b
  unfold rmv
  by_cases h : b = a
  · rw [if_pos h, if_pos h]
  · rw [if_neg h, if_neg h, upd_ne h]
theorem rmv_same {H H' : Hp} {a : Addr} (s : Same H H') : Same (rmv H a) (rmv H' a) := fun b o h => by
  unfold rmv at h ⊢
  by_cases e : b = a
  · rw [if_pos e] at h
    cases h
  · rw [if_neg e] at h ⊢
    exact s b o h
theorem rmv_sub {H : Hp} {a : Addr} : Same (rmv H a) H := fun b o h => by
  unfold rmv at h
  by_cases e : b = a
  · rw [if_pos e] at h
    cases h
  · rw [if_neg e] at h
    exact h
theorem rmv_of {H0 H : Hp} {a : Addr} (s : Same H0 H) (n : H0 a = none) : Same H0 (rmv H a) := fun b o h => by
  rw [rmv_ne (ne_of_none h n)]
  exact s b o h
theorem rmv_keep {H H' : Hp} {a : Addr} (k : KeepP a H H') : Same (rmv H a) H' := fun b o h => by
  unfold rmv at h
  by_cases e : b = a
  · rw [if_pos e] at h
    cases h
  · rw [if_neg e] at h
    exact k b o e h
structure MTxt (K : PySem.W.Frag) (Mc : Addr) : Prop where
  cl : Cls K Mc
  n1 : NoAttr K Mc "hurry"
  n2 : NoAttr K Mc "_net"
  n3 : NoAttr K Mc "_flows"
  n4 : NoAttr K Mc "_known_steps"
  n5 : NoAttr K Mc "_hand_count"
  n6 : NoAttr K Mc "_lamp_names"
  n7 : NoAttr K Mc "_all_moves"
def machNames : List Str := ["hurry", "_net", "_flows", "_known_steps", "_hand_count", "_lamp_names", "_all_moves"]
def keyB (on : List Bool) : NestedKey := .tup (on.map fun x => .num (if x = true then 1 else 0))
/-- what a machine keeps of the flows -/
def FlowsOk (K : PySem.W.Frag) (W : Addr) (H : Hp) (b : Bd) (fl : List (NestedKey × V)) : Prop := ∀ k v, valV fl k = some v → ∃ (on : List Bool) (o : Addr), k = keyB on ∧ v = .ref o ∧ FlowAt K W H o (shortF b on) (liveM b on b.relays) (liveM b on b.lamps)
def moveV (x : Str × Str) : List V := [.str x.1, .str x.2]
def movesF (b : Bd) : List (Str × Str) := b.switches.map (fun z => (("hand" : Str), z)) ++ b.relays.map fun r => (("relay" : Str), r.nm)
structure MachFs (K : PySem.W.Frag) (N W : Addr) (P : Program) (w : World) (H : Hp) (fs : List (Str × V)) (b : Bd) (hu : Int) (np d1 d2 la am : Addr) (fl : List (NestedKey × V)) (xm : List V) : Prop where
  l1 : fs.lookup ("hurry" : Str) = some (.int hu)
  l2 : fs.lookup ("_net" : Str) = some (.ref np)
  l3 : fs.lookup ("_flows" : Str) = some (.ref d1)
  l4 : fs.lookup ("_known_steps" : Str) = some (.ref d2)
  l5 : fs.lookup ("_hand_count" : Str) = some (.int (b.switches.length : Nat))
  l6 : fs.lookup ("_lamp_names" : Str) = some (.ref la)
  l7 : fs.lookup ("_all_moves" : Str) = some (.ref am)
  net : NetAt K N H np b
  f1 : ND P w K H d1 fl
  f2 : FlowsOk K W H b fl
  h6 : H la = some (.lst ((b.lamps.map Sp3.nm).map V.str))
  h7 : H am = some (.lst xm)
  r7 : Rows K H xm ((movesF b).map moveV)
  only : ∀ m, m ∉ machNames → fs.lookup m = none
/-- a machine at p, its flows at d1, its steps at d2 -/
def MachAt (K : PySem.W.Frag) (N W Mc : Addr) (P : Program) (w : World) (H : Hp) (p : Addr) (b : Bd) (hu : Int) (d1 d2 : Addr) (fl : List (NestedKey × V)) : Prop := ∃ (dx : Addr) (fs : List (Str × V)) (np la am : Addr) (xm : List V), H p = some (.ins Mc dx fs) ∧ MachFs K N W P w H fs b hu np d1 d2 la am fl xm
theorem mfs_at (v1 v2 v3 v4 v5 v6 v7 : V) (m : Str) : (putF "_all_moves" v7 (putF "_lamp_names" v6 (putF "_hand_count" v5 (putF "_known_steps" v4 (putF "_flows" v3 (putF "_net" v2 (putF "hurry" v1 []))))))).lookup m = if m = "_all_moves" then some v7 else if m = "_lamp_names" then some v6 else if m = "_hand_count" then some v5 else if m = "_known_steps" then some v4 else if m = "_flows" then some v3 else if m = "_net" then some v2 else if m = "hurry" then some v1 else none := by
  rw [lookup_putF, lookup_putF, lookup_putF, lookup_putF, lookup_putF, lookup_putF, lookup_putF]
  rfl
theorem Rows.append {K : PySem.W.Frag} {H : Hp} : ∀ {xs ys : List V} {rs ts : List (List V)}, Rows K H xs rs → Rows K H ys ts → Rows K H (xs ++ ys) (rs ++ ts)
  | [], _, [], _, _, h => h
  | _ :: _, _, _ :: _, _, ⟨h, r⟩, h2 => ⟨h, Rows.append r h2⟩
theorem Links.keep {p C dx : Addr} {fs : List (Str × V)} {H H' : Hp} {b : Bd} (k : KeepP p H H') (hp : H p = some (.ins C dx fs)) : ∀ {xs : List V} {cs : List Ct}, Links K H b xs cs → Links K H' b xs cs
  | [], [], _ => True.intro
  | _ :: _, _ :: _, ⟨⟨u, t, e, h1, h2⟩, r⟩ => ⟨⟨u, t, e, k.sqt hp h1, k.sqt hp h2⟩, r.keep k hp⟩
theorem NetAt.keep {N p C dx np : Addr} {fs : List (Str × V)} {H H' : Hp} {b : Bd} (k : KeepP p H H') (hp : H p = some (.ins C dx fs)) (ne : np ≠ p) : NetAt K N H np b → NetAt K N H' np b
  | ⟨dx2, fs2, ca, ba, la, xc, xb, xl, h, f⟩ => ⟨dx2, fs2, ca, ba, la, xc, xb, xl, k _ _ ne h, f.l1, f.l2, f.l3, f.l4, k _ _ (ne_of f.h2 hp (fun z => nomatch z)) f.h2, k _ _ (ne_of f.h3 hp (fun z => nomatch z)) f.h3, k _ _ (ne_of f.h4 hp (fun z => nomatch z)) f.h4, KeepP.rows k hp f.r2, KeepP.rows k hp f.r3, f.r4.keep k hp, f.only⟩
theorem keep_rmv {p : Addr} {H : Hp} : KeepP p H (rmv H p) := fun a o n h => by
  rw [rmv_ne n]
  exact h
theorem hands_loop {K : PySem.W.Frag} {H1 : Hp} {a D : Addr} {zs : List Str} {vs : List Nat} {σ : L2.St} {Qd : Hp → Prop} {i0 : Nat} {wd : Str} (ha : SqT K H1 a (zs.map V.str)) (hl : zs.length ≤ 1000) (nD : H1 D = none)
    (hw : ∀ x : V, wipe ((wipe σ vs).set i0 (some x)) vs = wipe σ vs) (g1 : ∀ x : V, ((wipe σ vs).set i0 (some x))[i0]? = some (some x))
    (hq : ∀ H2 ys, Same H1 H2 → H2 D = some (.lst ys) → Rows K H2 ys ((zs.map fun z => (wd, z)).map moveV) → Qd H2) :
    ∃ W : Nat → Nat → Hp → Prop, (∃ m, W 0 m (upd H1 D (.lst []))) ∧ ∀ i m H, W i m H →
      ((Itt K a).stop i H ∧ Qd H) ∨ ((Itt K a).go i H ∧ ∃ Nx : Hp → Prop, (∀ H', Nx H' → ∃ m', m' < m ∧ W (i + 1) m' H') ∧ ∀ x H', (Itt K a).yld i H x H' → gName i0 x (wipe σ vs) H' fun σ2 H2 => wipe σ2 vs = wipe σ vs ∧ tYes σ2 H2 fun b H3 =>
        if b = true then tTup (tCons (tC (.str wd)) (tCons (tVar i0) tNil)) σ2 H3 fun y H4 => ∃ acc, H4 D = some (.lst acc) ∧ acc.length < sizeLine ∧ Nx (upd H4 D (.lst (acc ++ [y]))) else Nx H3) := by
  refine lc_tup (K := K) (a := a) (xs := zs.map V.str) (fun i G => ∃ ys, Same H1 G ∧ G D = some (.lst ys) ∧ Rows K G ys (((zs.take i).map fun z => (wd, z)).map moveV)) ⟨[], same_upd nD, upd_same, True.intro⟩ (fun i G _ ⟨_, sm, _⟩ => Same.sqt sm ha) ?_ ?_
  · rintro i v G hi ⟨ys, sm, hd, hY⟩
    rw [List.getElem?_map] at hi
    obtain ⟨z, hz, rfl⟩ := Option.map_eq_some_iff.mp hi
    have ly := hY.len
    rw [List.length_map, List.length_map, List.length_take] at ly
    refine ⟨hw _, ?_⟩
    refine yesT ?_
    refine ⟨_, g1 _, by show 2 ≤ sizeLine; decide, fun t nt => ?_⟩
    have s2 := same_upd (o := .tup [.str wd, .str z]) nt
    have hd2 := s2 _ _ hd
    have ne : D ≠ t := ne_of_none hd nt
    refine ⟨_, hd2, szlt (by omega), ys ++ [.ref t], same_mut (sm.trans s2) nD, upd_same, ?_⟩
    rw [List.take_add_one, hz, List.map_append, List.map_append]
    refine Rows.snoc ?_ (Rows.updl hd2 (hY.mono s2))
    exact .inl (.inl (by rw [upd_ne ne.symm]; exact upd_same))
  · rintro G ⟨ys, sm, hd, hY⟩
    rw [List.length_map, List.take_length] at hY
    exact hq G ys sm hd hY
theorem rels_loop {K : PySem.W.Frag} {H1 : Hp} {a D : Addr} {xs : List V} {rs : List Sp3} {vs : List Nat} {σ : L2.St} {Qd : Hp → Prop} {i0 i1 i2 : Nat} {wd : Str} (hR : Rows K H1 xs (rs.map Sp3.row)) (hl : rs.length ≤ 1000) (ha : SqT K H1 a xs) (nD : H1 D = none)
    (hw : ∀ x y z : V, wipe ((((wipe σ vs).set i0 (some x)).set i1 (some y)).set i2 (some z)) vs = wipe σ vs) (g1 : ∀ x y z : V, ((((wipe σ vs).set i0 (some x)).set i1 (some y)).set i2 (some z))[i0]? = some (some x))
    (hq : ∀ H2 ys, Same H1 H2 → H2 D = some (.lst ys) → Rows K H2 ys ((rs.map fun r => (wd, r.nm)).map moveV) → Qd H2) :
    ∃ W : Nat → Nat → Hp → Prop, (∃ m, W 0 m (upd H1 D (.lst []))) ∧ ∀ i m H, W i m H →
      ((Itt K a).stop i H ∧ Qd H) ∨ ((Itt K a).go i H ∧ ∃ Nx : Hp → Prop, (∀ H', Nx H' → ∃ m', m' < m ∧ W (i + 1) m' H') ∧ ∀ x H', (Itt K a).yld i H x H' → gTup K 3 (gCons (gName i0) (gCons (gName i1) (gCons (gName i2) gNil))) x (wipe σ vs) H' fun σ2 H2 => wipe σ2 vs = wipe σ vs ∧ tYes σ2 H2 fun b H3 =>
        if b = true then tTup (tCons (tC (.str wd)) (tCons (tVar i0) tNil)) σ2 H3 fun y H4 => ∃ acc, H4 D = some (.lst acc) ∧ acc.length < sizeLine ∧ Nx (upd H4 D (.lst (acc ++ [y]))) else Nx H3) := by
  have lx := hR.len
  rw [List.length_map] at lx
  refine lc_tup (K := K) (a := a) (xs := xs) (fun i G => ∃ ys, Same H1 G ∧ G D = some (.lst ys) ∧ Rows K G ys (((rs.take i).map fun r => (wd, r.nm)).map moveV)) ⟨[], same_upd nD, upd_same, True.intro⟩ (fun i G _ ⟨_, sm, _⟩ => Same.sqt sm ha) ?_ ?_
  · rintro i v G hi ⟨ys, sm, hd, hY⟩
    obtain ⟨tt, rw_, rfl, hrow, hri⟩ := hR.at hi
    rw [List.getElem?_map] at hri
    obtain ⟨r, hr, rfl⟩ := Option.map_eq_some_iff.mp hri
    have ly := hY.len
    rw [List.length_map, List.length_map, List.length_take] at ly
    refine ⟨tt, _, rfl, Same.sqt sm hrow, rfl, _, _, rfl, _, _, rfl, _, _, rfl, rfl, hw _ _ _, ?_⟩
    refine yesT ?_
    refine ⟨_, g1 _ _ _, by show 2 ≤ sizeLine; decide, fun t nt => ?_⟩
    have s2 := same_upd (o := .tup [.str wd, .str r.nm]) nt
    have hd2 := s2 _ _ hd
    have ne : D ≠ t := ne_of_none hd nt
    refine ⟨_, hd2, szlt (by omega), ys ++ [.ref t], same_mut (sm.trans s2) nD, upd_same, ?_⟩
    rw [List.take_add_one, hr, List.map_append, List.map_append]
    refine Rows.snoc ?_ (Rows.updl hd2 (hY.mono s2))
    exact .inl (.inl (by rw [upd_ne ne.symm]; exact upd_same))
  · rintro G ⟨ys, sm, hd, hY⟩
    rw [lx, List.take_length] at hY
    exact hq G ys sm hd hY
theorem scMachI : FnScope ["self", "board", "hurry", "hands", "name", "_"] ["self", "board", "hurry"] (defScope sMachineInit) := ⟨rfl, rfl, rfl, by decide +kernel, rfl, by decide +kernel, by decide +kernel⟩
theorem fund_ok {x qual : Str} {st : Stmt} {dvs : List V} {kws : List (Str × V)} {f : Addr} {fd : FuncData} {N ps : List Str} {k : Nat} {sp : Sp} (F : FunD K x qual (defArgs st) (defBody st) (defScope st) dvs kws f fd) (S : FnScope N ps (defScope st)) (len : ∀ vs H Q E, sp vs H Q E → vs.length = ps.length)
    (hbody : ∀ (cdv : Value) (A : Around) (outer : List Env) (s : Shared) (H : Hp) (vs : List V) (Q : VK) (E : XK), Room k (A.deeper (envOfC qual (defScope st) s.heap.objs.size f cdv)) → sp vs H Q E →
      ∃ t, PSs (cxOf CX0 P w K mg base N qual (defScope st) f cdv A outer s H E).nox (defBody st) t ∧ t { nx := fun _ H' => Q .non H', rt := Q } (L2.start N vs) H) : FnOk P w K mg base CX0 (k + 1) f fd ps sp := by
  refine FunD.ok F S len fun cdv A outer s H vs Q E hr h => ?_
  obtain ⟨t, h1, h2⟩ := hbody cdv A outer s H vs Q E hr h
  exact ⟨t, h1.nox, h2⟩
def spMachI (K : PySem.W.Frag) (C N W Mc : Addr) (P : Program) (w : World) : Sp := fun vs H Q _ => ∃ (p dx pb : Addr) (H0 : Hp) (b : Bd) (hu : Int), vs = [.ref p, .ref pb, .int hu] ∧ H p = some (.ins Mc dx []) ∧ H0 p = none ∧ Same H0 H ∧ BoardAt K C H0 pb b ∧ b.Ok ∧ Few b ∧
  ∀ H' d1 d2, Same H0 H' → H0 d1 = none → H0 d2 = none → MachAt K N W Mc P w H' p b hu d1 d2 [] → ND P w K H' d2 [] → d1 ≠ d2 → Q .non H'
theorem ok_machI {f fI fA C N W Mc sp sg : Addr} {mc : Value} {fd fdI : FuncData} {k : Nat} (F : FunD K "__init__" "Machine.__init__" (defArgs sMachineInit) (defBody sMachineInit) (defScope sMachineInit) [.int 0] [] f fd) (T : BTxt K mg C mc sp sg) (TN : NTxt K N) (TM : MTxt K Mc) (M : NetM K mg N fI fA) (bI : Binds K fdI ["self", "board"] [])
    (GI : FnOk P w K mg base CX0 (k + 3) fI fdI ["self", "board"] (spNetI K C N)) : FnOk P w K mg base CX0 (k + 5) f fd ["self", "board", "hurry"] (spMachI K C N W Mc P w) := by
  refine fund_ok F scMachI (fun vs H Q E h => ?_) (fun cdv A outer s H vs Q E hr h => ?_)
  · obtain ⟨p, dx, pb, H0, b, hu, rfl, _⟩ := h
    rfl
  · obtain ⟨p, dx, pb, H0, b, hu, rfl, hp, np, s0, hB, ok, few, q⟩ := h
    refine ⟨_, (pss_cons (ps_fld (pv 0) (pv 2) rfl)
      (pss_cons (ps_fld (pv 0) (pe_make M.make GI (hr.mono (by omega)) (by rfl) M.mgN bI .nil pass0 (pa_cons (pv 1) pa_nil)) rfl)
      (pss_cons (ps_fld (pv 0) (show PE _ _ (tDNewN P w) from pe_dnewN) rfl)
      (pss_cons (ps_fld (pv 0) (show PE _ _ (tDNewN P w) from pe_dnewN) rfl)
      (pss_cons (ps_fld (pv 0) (pe_callB call_len_seq (by rfl) T.len PySem.boot_len (pa_cons (pe_fld (pv 1) rfl) pa_nil)) rfl)
      (pss_cons (ps_fld (pv 0) (pe_lc (own := [("name", 4), ("_", 5)]) (g := (gTup K 3 (gCons (gName 4) (gCons (gName 5) (gCons (gName 5) gNil))))) (tt := tYes) rfl scMachI.nd (pi_tup (pe_fld (pv 1) rfl)) (blkOk_by (N := ["self", "board", "hurry", "hands", "name", "_"]) (sc := defScope sMachineInit) (by decide +kernel)) (fun _ _ _ _ _ => (pg_tup rfl (pgs_cons (pg_name (i := 4) scMachI.nd rfl (Or.inl rfl)) (pgs_cons (pg_name (i := 5) scMachI.nd rfl (Or.inl rfl)) (pgs_cons (pg_name (i := 5) scMachI.nd rfl (Or.inl rfl)) pgs_nil))))) (fun _ _ _ _ _ => pts_nil) (fun _ _ _ _ _ => (pv 4))) rfl)
      (pss_cons (ps_setLc (i := 3) (own := [("name", 4)]) (g := (gName 4)) (tt := tYes) (te := tTup (tCons (tC (.str "hand")) (tCons (tVar 4) tNil))) rfl scMachI.nd rfl rfl (sw_true rfl rfl rfl (by decide +kernel)) (pi_tup (pe_fld (pv 1) rfl)) (blkOk_by (N := ["self", "board", "hurry", "hands", "name", "_"]) (sc := defScope sMachineInit) (by decide +kernel)) (fun _ _ _ _ _ => (pg_name (i := 4) scMachI.nd rfl (Or.inl rfl))) (fun _ _ _ _ _ => pts_nil) (fun _ _ _ _ _ => (pe_tup (pa_cons pe_str (pa_cons (pv 4) pa_nil)))))
      (pss_one (ps_fld (pv 0) (pe_op op_cat (pv 3) (pe_lc (own := [("name", 4), ("_", 5)]) (g := (gTup K 3 (gCons (gName 4) (gCons (gName 5) (gCons (gName 5) gNil))))) (tt := tYes) (te := tTup (tCons (tC (.str "relay")) (tCons (tVar 4) tNil))) rfl scMachI.nd (pi_tup (pe_fld (pv 1) rfl)) (blkOk_by (N := ["self", "board", "hurry", "hands", "name", "_"]) (sc := defScope sMachineInit) (by decide +kernel)) (fun _ _ _ _ _ => (pg_tup rfl (pgs_cons (pg_name (i := 4) scMachI.nd rfl (Or.inl rfl)) (pgs_cons (pg_name (i := 5) scMachI.nd rfl (Or.inl rfl)) (pgs_cons (pg_name (i := 5) scMachI.nd rfl (Or.inl rfl)) pgs_nil))))) (fun _ _ _ _ _ => pts_nil) (fun _ _ _ _ _ => (pe_tup (pa_cons pe_str (pa_cons (pv 4) pa_nil)))))) rfl))))))))), ?_⟩
    obtain ⟨dxb, fsb, tn, ts, tr, tl, tc, tm, xr, xl, xc, hpb, fB, _⟩ := id hB
    have r0 : Same H0 (rmv H p) := rmv_of s0 np
    refine ⟨_, rfl, _, rfl, p, Mc, dx, _, rfl, hp, TM.cl, TM.n1, by decide, ?_⟩
    have hp1 := upd_same (H := H) (a := p) (o := .ins Mc dx (putF "hurry" (.int hu) []))
    have r1 : Same H0 (rmv (upd H p (.ins Mc dx (putF "hurry" (.int hu) []))) p) := by rw [rmv_upd]; exact r0
    generalize (upd H p (.ins Mc dx (putF "hurry" (.int hu) []))) = H1 at hp1 r1 ⊢
    -- _net
    refine ⟨_, rfl, fun x dx2 nx ndx nex => ?_⟩
    have s1 := same_mut (o := .ins N dx2 []) (same_upd (o := .own x) ndx) nx
    refine ⟨x, dx2, pb, H1, b, rfl, upd_same, nx, s1, hB.mono (r1.trans rmv_sub), ok, few, fun H2 s2 hN => ⟨rfl, ?_⟩⟩
    have hp2 := s2 _ _ hp1
    have nxp : x ≠ p := fun e => by
      rw [e, hp1] at nx
      cases nx
    have net2 : NetAt K N (rmv H2 p) x b := hN.keep keep_rmv hp2 nxp
    have r2 : Same H0 (rmv H2 p) := r1.trans (rmv_same s2)
    clear hN s1
    have fl : ∀ {f : Str} {v : V} {fs : List (Str × V)} {n : Nat}, fs.length ≤ n → (putF f v fs).length ≤ n + 1 := fun {f v fs n} h => Nat.le_trans (putF_len f v fs) (Nat.succ_le_succ h)
    have k0 : ([] : List (Str × V)).length ≤ 0 := Nat.le_refl _
    refine ⟨_, rfl, p, Mc, dx, _, rfl, hp2, TM.cl, TM.n2, Nat.lt_of_le_of_lt (fl k0) (by decide), ?_⟩
    have hp3 := upd_same (H := H2) (a := p) (o := .ins Mc dx (putF "_net" (.ref x) (putF "hurry" (.int hu) [])))
    have r3 : Same H0 (rmv (upd H2 p (.ins Mc dx (putF "_net" (.ref x) (putF "hurry" (.int hu) [])))) p) := by rw [rmv_upd]; exact r2
    have net3 : NetAt K N (rmv (upd H2 p (.ins Mc dx (putF "_net" (.ref x) (putF "hurry" (.int hu) [])))) p) x b := by rw [rmv_upd]; exact net2
    generalize (upd H2 p (.ins Mc dx (putF "_net" (.ref x) (putF "hurry" (.int hu) [])))) = H3 at hp3 r3 net3 ⊢
    clear net2 r2 hp2 s2
    -- _flows
    refine fun d1 n1 m1 => ?_
    have s3 := same_upd (o := ndo P w d1 []) n1
    have hp4 := s3 _ _ hp3
    have d1p : d1 ≠ p := fun e => by
      rw [e, hp3] at n1
      cases n1
    have nd1 : ND P w K (rmv (upd H3 d1 (ndo P w d1 [])) p) d1 [] := ND.nil (by rw [rmv_ne d1p]; exact upd_same) m1
    have r4 := r3.trans (rmv_same s3)
    have net4 := net3.mono (rmv_same s3)
    have n01 : H0 d1 = none := (r3.trans rmv_sub).free n1
    generalize (upd H3 d1 (ndo P w d1 [])) = H4 at hp4 nd1 r4 net4 ⊢
    refine ⟨_, rfl, p, Mc, dx, _, rfl, hp4, TM.cl, TM.n3, Nat.lt_of_le_of_lt (fl (fl k0)) (by decide), ?_⟩
    have hp5 := upd_same (H := H4) (a := p) (o := .ins Mc dx (putF "_flows" (.ref d1) (putF "_net" (.ref x) (putF "hurry" (.int hu) []))))
    rw [← rmv_upd (H := H4) (a := p) (o := .ins Mc dx (putF "_flows" (.ref d1) (putF "_net" (.ref x) (putF "hurry" (.int hu) []))))] at nd1 r4 net4
    generalize (upd H4 p (.ins Mc dx (putF "_flows" (.ref d1) (putF "_net" (.ref x) (putF "hurry" (.int hu) []))))) = H5 at hp5 nd1 r4 net4 ⊢
    clear net3 r3 hp4 hp3 s3
    -- _known_steps
    refine fun d2 n2 m2 => ?_
    have s5 := same_upd (o := ndo P w d2 []) n2
    have hp6 := s5 _ _ hp5
    have d2p : d2 ≠ p := fun e => by
      rw [e, hp5] at n2
      cases n2
    have ne12 : d1 ≠ d2 := fun e => by
      obtain ⟨xs, hx, _⟩ := nd1
      have := rmv_sub _ _ hx
      rw [e, n2] at this
      cases this
    have sqs : ∀ c ys, SqT K (rmv H5 p) c ys → SqT K (rmv (upd H5 d2 (ndo P w d2 [])) p) c ys := fun c ys h => Same.sqt (rmv_same s5) h
    have nd2 : ND P w K (rmv (upd H5 d2 (ndo P w d2 [])) p) d2 [] := ND.nil (by rw [rmv_ne d2p]; exact upd_same) m2
    have nd1' := nd1.mono sqs (fun o h => rmv_same s5 _ _ h)
    have r6 := r4.trans (rmv_same s5)
    have net6 := net4.mono (rmv_same s5)
    have n02 : H0 d2 = none := (r4.trans rmv_sub).free n2
    generalize (upd H5 d2 (ndo P w d2 [])) = H6 at hp6 nd2 nd1' r6 net6 ⊢
    clear sqs nd1 net4 r4 s5
    refine ⟨_, rfl, p, Mc, dx, _, rfl, hp6, TM.cl, TM.n4, Nat.lt_of_le_of_lt (fl (fl (fl k0))) (by decide), ?_⟩
    have hp7 := upd_same (H := H6) (a := p) (o := .ins Mc dx (putF "_known_steps" (.ref d2) (putF "_flows" (.ref d1) (putF "_net" (.ref x) (putF "hurry" (.int hu) [])))))
    rw [← rmv_upd (H := H6) (a := p) (o := .ins Mc dx (putF "_known_steps" (.ref d2) (putF "_flows" (.ref d1) (putF "_net" (.ref x) (putF "hurry" (.int hu) [])))))] at nd1' nd2 r6 net6
    generalize (upd H6 p (.ins Mc dx (putF "_known_steps" (.ref d2) (putF "_flows" (.ref d1) (putF "_net" (.ref x) (putF "hurry" (.int hu) [])))))) = H7 at hp7 nd1' nd2 r6 net6 ⊢
    clear hp6 hp5
    -- _hand_count
    have e7 := r6.trans rmv_sub
    refine ⟨_, rfl, pb, C, dxb, fsb, _, rfl, e7 _ _ hpb, T.cl, T.nS, fB.ls, ts, _, rfl, .inr (Same.sqt e7 fB.hs), ?_⟩
    refine ⟨_, rfl, p, Mc, dx, _, rfl, hp7, TM.cl, TM.n5, Nat.lt_of_le_of_lt (fl (fl (fl (fl k0)))) (by decide), ?_⟩
    have hp8 := upd_same (H := H7) (a := p) (o := .ins Mc dx (putF "_hand_count" (.int ((b.switches.map V.str).length : Nat)) (putF "_known_steps" (.ref d2) (putF "_flows" (.ref d1) (putF "_net" (.ref x) (putF "hurry" (.int hu) []))))))
    rw [← rmv_upd (H := H7) (a := p) (o := .ins Mc dx (putF "_hand_count" (.int ((b.switches.map V.str).length : Nat)) (putF "_known_steps" (.ref d2) (putF "_flows" (.ref d1) (putF "_net" (.ref x) (putF "hurry" (.int hu) []))))))] at nd1' nd2 r6 net6
    generalize (upd H7 p (.ins Mc dx (putF "_hand_count" (.int ((b.switches.map V.str).length : Nat)) (putF "_known_steps" (.ref d2) (putF "_flows" (.ref d1) (putF "_net" (.ref x) (putF "hurry" (.int hu) []))))))) = H8 at hp8 nd1' nd2 r6 net6 ⊢
    clear hp7 e7
    -- _lamp_names
    have e8 := r6.trans rmv_sub
    refine ⟨_, rfl, pb, C, dxb, fsb, _, rfl, e8 _ _ hpb, T.cl, T.nL, fB.ll, tl, rfl, ⟨_, Same.sqt e8 fB.hl⟩, fun la nla => ?_⟩
    refine names_loop (i0 := 4) (i1 := 5) (i2 := 5) (fB.rl.mono e8) few.l (Same.sqt e8 fB.hl) nla (fun _ _ _ => rfl) (fun _ _ _ => rfl) fun H9 s9 hla => ?_
    have hp9 := s9 _ _ hp8
    have lap : la ≠ p := fun e => by
      rw [e, hp8] at nla
      cases nla
    have sqs : ∀ c ys, SqT K (rmv H8 p) c ys → SqT K (rmv H9 p) c ys := fun c ys h => Same.sqt (rmv_same s9) h
    have nd1 := nd1'.mono sqs (fun o h => rmv_same s9 _ _ h)
    have nd2' := nd2.mono sqs (fun o h => rmv_same s9 _ _ h)
    have r9 := r6.trans (rmv_same s9)
    have net9 := net6.mono (rmv_same s9)
    have la9 : rmv H9 p la = some (.lst ((b.lamps.map Sp3.nm).map V.str)) := by rw [rmv_ne lap]; exact hla
    clear sqs nd1' nd2 r6 net6 e8 s9 hp8 hla
    refine ⟨_, rfl, p, Mc, dx, _, rfl, hp9, TM.cl, TM.n6, Nat.lt_of_le_of_lt (fl (fl (fl (fl (fl k0))))) (by decide), ?_⟩
    generalize hF : (putF "_lamp_names" (.ref la) (putF "_hand_count" (.int ((b.switches.map V.str).length : Nat)) (putF "_known_steps" (.ref d2) (putF "_flows" (.ref d1) (putF "_net" (.ref x) (putF "hurry" (.int hu) [])))))) = fs6
    have hpa := upd_same (H := H9) (a := p) (o := .ins Mc dx fs6)
    rw [← rmv_upd (H := H9) (a := p) (o := .ins Mc dx fs6)] at nd1 nd2' r9 net9 la9
    generalize (upd H9 p (.ins Mc dx fs6)) = Ha at hpa nd1 nd2' r9 net9 la9 ⊢
    clear hp9
    -- hands
    have ea := r9.trans rmv_sub
    refine ⟨_, rfl, pb, C, dxb, fsb, _, rfl, ea _ _ hpb, T.cl, T.nS, fB.ls, ts, rfl, ⟨_, Same.sqt ea fB.hs⟩, fun D1 nD1 => ?_⟩
    refine hands_loop (i0 := 4) (wd := "hand") (Same.sqt ea fB.hs) few.s nD1 (fun _ => rfl) (fun _ => rfl) fun Hb y1 sb hD1 hY1 => ?_
    have ab := ea.trans sb
    refine ⟨_, rfl, _, rfl, pb, C, dxb, fsb, _, rfl, ab _ _ hpb, T.cl, T.nR, fB.lr, tr, rfl, ⟨_, Same.sqt ab fB.hr⟩, fun D2 nD2 => ?_⟩
    refine rels_loop (i0 := 4) (i1 := 5) (i2 := 5) (wd := "relay") (fB.rr.mono ab) few.r (Same.sqt ab fB.hr) nD2 (fun _ _ _ => rfl) (fun _ _ _ => rfl) fun Hc y2 sc hD2 hY2 => ?_
    have l1 := hY1.len
    have l2 := hY2.len
    rw [List.length_map, List.length_map] at l1 l2
    have sw6 := ok.sw
    have rl8 := ok.rl
    refine ⟨D1, D2, _, _, rfl, rfl, sc _ _ hD1, hD2, szl (by omega), fun am nam => ?_⟩
    have sd := same_upd (o := .lst (y1 ++ y2)) nam
    have s4 := sb.trans (sc.trans sd)
    have hpd := s4 _ _ hpa
    have amp : am ≠ p := fun e => by
      rw [e, sc _ _ (sb _ _ hpa)] at nam
      cases nam
    have hY : Rows K (upd Hc am (.lst (y1 ++ y2))) (y1 ++ y2) ((movesF b).map moveV) := by
      unfold movesF
      rw [List.map_append]
      exact Rows.append ((hY1.mono sc).mono sd) (hY2.mono sd)
    have ham := upd_same (H := Hc) (a := am) (o := .lst (y1 ++ y2))
    generalize (upd Hc am (.lst (y1 ++ y2))) = Hd at s4 hpd hY ham ⊢
    have sqs : ∀ c ys, SqT K (rmv Ha p) c ys → SqT K (rmv Hd p) c ys := fun c ys h => Same.sqt (rmv_same s4) h
    have nd1x := nd1.mono sqs (fun o h => rmv_same s4 _ _ h)
    have nd2x := nd2'.mono sqs (fun o h => rmv_same s4 _ _ h)
    have rx := r9.trans (rmv_same s4)
    have netx := net9.mono (rmv_same s4)
    have lax := rmv_same s4 _ _ la9
    have amx : rmv Hd p am = some (.lst (y1 ++ y2)) := by rw [rmv_ne amp]; exact ham
    have hYx := KeepP.rows (keep_rmv (p := p)) hpd hY
    have l6 : fs6.length ≤ 6 := by rw [← hF]; exact fl (fl (fl (fl (fl (fl k0)))))
    refine ⟨_, rfl, p, Mc, dx, _, rfl, hpd, TM.cl, TM.n7, Nat.lt_of_le_of_lt l6 (by decide), ?_⟩
    have su : ∀ {o : HO}, Same (rmv Hd p) (upd Hd p o) := fun {o} => by
      have := rmv_sub (H := upd Hd p o) (a := p)
      rwa [rmv_upd] at this
    have lk : ∀ m, (putF "_all_moves" (.ref am) fs6).lookup m = if m = "_all_moves" then some (.ref am) else if m = "_lamp_names" then some (.ref la) else if m = "_hand_count" then some (.int ((b.switches.map V.str).length : Nat)) else if m = "_known_steps" then some (.ref d2) else if m = "_flows" then some (.ref d1) else if m = "_net" then some (.ref x) else if m = "hurry" then some (.int hu) else none := fun m => by
      rw [← hF]
      exact mfs_at _ _ _ _ _ _ _ m
    refine q _ d1 d2 (rx.trans su) n01 n02 ⟨dx, _, x, la, am, y1 ++ y2, upd_same, ⟨by rw [lk]; rfl, by rw [lk]; rfl, by rw [lk]; rfl, by rw [lk]; rfl, by rw [lk, List.length_map]; rfl, by rw [lk]; rfl, by rw [lk]; rfl, netx.mono su, nd1x.mono (fun c ys h => Same.sqt su h) (fun o h => su _ _ h), (fun k v h => by cases h), su _ _ lax, su _ _ amx, hYx.mono su, fun m hm => ?_⟩⟩ (nd2x.mono (fun c ys h => Same.sqt su h) (fun o h => su _ _ h)) ne12
    rw [lk]
    unfold machNames at hm
    simp only [List.mem_cons, List.not_mem_nil, or_false, not_or] at hm
    obtain ⟨m1, m2, m3, m4, m5, m6, m7⟩ := hm
    rw [if_neg m7, if_neg m6, if_neg m5, if_neg m4, if_neg m3, if_neg m2, if_neg m1]
theorem nk_bools {K : PySem.W.Frag} {H : Hp} : ∀ on : List Bool, NKVs K H (on.map fun x => .num (if x = true then 1 else 0)) (on.map V.bl)
  | [] => .nil
  | x :: on => .cons (.bl x) (nk_bools on)
theorem nk_on {K : PySem.W.Frag} {H : Hp} {m : Addr} {on : List Bool} (h : SqT K H m (on.map V.bl)) : NKV K H (keyB on) (.ref m) := .tup h (nk_bools on)
theorem depth_bools : ∀ on : List Bool, NestedKey.depthAll (on.map fun x => NestedKey.num (if x = true then 1 else 0)) = 0
  | [] => rfl
  | x :: on => by
    show max (NestedKey.depth (.num _)) (NestedKey.depthAll (on.map fun x => NestedKey.num (if x = true then 1 else 0))) = 0
    rw [depth_bools on]
    rfl
theorem depth_on (on : List Bool) : (keyB on).depth ≤ 8 := by
  show NestedKey.depthAll (on.map fun x => NestedKey.num (if x = true then 1 else 0)) + 1 ≤ 8
  rw [depth_bools on]
  decide
theorem keyB_inj : ∀ {x y : List Bool}, keyB x = keyB y → x = y := by
  intro x y h
  have h2 := NestedKey.tup.inj h
  have inj : ∀ a b : Bool, NestedKey.num (if a = true then 1 else 0) = NestedKey.num (if b = true then 1 else 0) → a = b := fun a b e => by
    have e := NestedKey.num.inj e
    cases a <;> cases b <;> first | rfl | exact absurd e (by decide)
  clear h
  induction x generalizing y with
  | nil =>
    cases y with
    | nil => rfl
    | cons _ _ => simp at h2
  | cons a x ih =>
    cases y with
    | nil => simp at h2
    | cons b y =>
      rw [List.map_cons, List.map_cons] at h2
      injection h2 with e1 e2
      rw [inj a b e1, ih e2]
/-- the things of other kinds stay where an .ext object changes -/
theorem ext_ne {H : Hp} {p a : Addr} {φ : Heap → Prop} {o : HO} (hp : H p = some (.ext φ)) (h : H a = some o) (hn : ∀ ψ, o ≠ .ext ψ) : a ≠ p := fun e => by
  rw [e, hp] at h
  exact hn φ (Option.some.inj h).symm
theorem ext_sqt {K : PySem.W.Frag} {H H' : Hp} {p a : Addr} {φ : Heap → Prop} {xs : List V} (k : KeepP p H H') (hp : H p = some (.ext φ)) (h : SqT K H a xs) : SqT K H' a xs := by
  rcases h with (h | ⟨o, h⟩) | h
  · exact .inl (.inl (k _ _ (ext_ne hp h (fun _ z => nomatch z)) h))
  · exact .inl (.inr ⟨o, k _ _ (ext_ne hp h (fun _ z => nomatch z)) h⟩)
  · exact .inr h
theorem ext_rows {K : PySem.W.Frag} {H H' : Hp} {p : Addr} {φ : Heap → Prop} (k : KeepP p H H') (hp : H p = some (.ext φ)) : ∀ {xs : List V} {rs : List (List V)}, Rows K H xs rs → Rows K H' xs rs
  | [], [], _ => True.intro
  | _ :: _, _ :: _, ⟨⟨t, e, h⟩, r⟩ => ⟨⟨t, e, ext_sqt k hp h⟩, ext_rows k hp r⟩
theorem ext_links {H H' : Hp} {p : Addr} {φ : Heap → Prop} {b : Bd} (k : KeepP p H H') (hp : H p = some (.ext φ)) : ∀ {xs : List V} {cs : List Ct}, Links K H b xs cs → Links K H' b xs cs
  | [], [], _ => True.intro
  | _ :: _, _ :: _, ⟨⟨u, t, e, h1, h2⟩, r⟩ => ⟨⟨u, t, e, ext_sqt k hp h1, ext_sqt k hp h2⟩, ext_links k hp r⟩
theorem ext_net {N p np : Addr} {φ : Heap → Prop} {H H' : Hp} {b : Bd} (k : KeepP p H H') (hp : H p = some (.ext φ)) : NetAt K N H np b → NetAt K N H' np b
  | ⟨dx2, fs2, ca, ba, la, xc, xb, xl, h, f⟩ => ⟨dx2, fs2, ca, ba, la, xc, xb, xl, k _ _ (ext_ne hp h (fun _ z => nomatch z)) h, f.l1, f.l2, f.l3, f.l4, k _ _ (ext_ne hp f.h2 (fun _ z => nomatch z)) f.h2, k _ _ (ext_ne hp f.h3 (fun _ z => nomatch z)) f.h3, k _ _ (ext_ne hp f.h4 (fun _ z => nomatch z)) f.h4, ext_rows k hp f.r2, ext_rows k hp f.r3, ext_links k hp f.r4, f.only⟩
theorem ext_flow {W p o : Addr} {φ : Heap → Prop} {H H' : Hp} {sh : Bool} {cl bl : List Bool} (k : KeepP p H H') (hp : H p = some (.ext φ)) : FlowAt K W H o sh cl bl → FlowAt K W H' o sh cl bl
  | ⟨dx, ca, ba, fs, h1, h2, h3, h4, h5, h6⟩ => ⟨dx, ca, ba, fs, k _ _ (ext_ne hp h1 (fun _ z => nomatch z)) h1, h2, h3, h4, k _ _ (ext_ne hp h5 (fun _ z => nomatch z)) h5, k _ _ (ext_ne hp h6 (fun _ z => nomatch z)) h6⟩
theorem FlowsOk.put {K : PySem.W.Frag} {W : Addr} {H : Hp} {b : Bd} {fl : List (NestedKey × V)} {on : List Bool} {o : Addr} (h : FlowsOk K W H b fl) (ho : FlowAt K W H o (shortF b on) (liveM b on b.relays) (liveM b on b.lamps)) : FlowsOk K W H b (putK fl (keyB on) (.ref o)) := by
  intro k v hv
  rw [valV_put] at hv
  by_cases e : k = keyB on
  · rw [if_pos e] at hv
    exact ⟨on, o, e, (Option.some.inj hv).symm, ho⟩
  · rw [if_neg e] at hv
    exact h k v hv
theorem scFlowAt : FnScope ["self", "movers"] ["self", "movers"] (defScope sMachineFlowAt) := ⟨rfl, rfl, rfl, by decide +kernel, rfl, by decide +kernel, by decide +kernel⟩
def spFlowAt (K : PySem.W.Frag) (N W Mc : Addr) (P : Program) (w : World) : Sp := fun vs H Q _ => ∃ (p m : Addr) (b : Bd) (hu : Int) (d1 d2 : Addr) (fl : List (NestedKey × V)) (on : List Bool), vs = [.ref p, .ref m] ∧ MachAt K N W Mc P w H p b hu d1 d2 fl ∧ b.Ok ∧ Few b ∧ SqT K H m (on.map V.bl) ∧ on.length = b.movers.length ∧ fl.length < 90000 ∧
  ∀ H' o fl', KeepP d1 H H' → MachAt K N W Mc P w H' p b hu d1 d2 fl' → fl'.length ≤ fl.length + 1 → FlowAt K W H' o (shortF b on) (liveM b on b.relays) (liveM b on b.lamps) → Q (.ref o) H'
theorem ok_flowAt {f fF N W Mc : Addr} {fd fdF : FuncData} {k : Nat} (F : Fun K "flow_at" "Machine.flow_at" sMachineFlowAt f fd) (TN : NTxt K N) (TM : MTxt K Mc) (mF : Meth K N "flow" fF) (bF : Binds K fdF ["self", "movers"] []) (GF : FnOk P w K mg base CX0 (k + 3) fF fdF ["self", "movers"] (spFlow K N W)) :
    FnOk P w K mg base CX0 (k + 4) f fd ["self", "movers"] (spFlowAt K N W Mc P w) := by
  refine F.ok scFlowAt (fun vs H Q E h => ?_) (fun cdv A outer s H vs Q E hr h => ?_)
  · obtain ⟨p, m, b, hu, d1, d2, fl, on, rfl, _⟩ := h
    rfl
  · obtain ⟨p, m, b, hu, d1, d2, fl, on, rfl, hM, ok, few, hm, lon, l9, q⟩ := h
    have hu100 : (A.deeper (envOfC "Machine.flow_at" (defScope sMachineFlowAt) s.heap.objs.size f cdv)).units + 100 < cLine := by have := hr.un; omega
    refine ⟨_, (pss_cons (ps_if (pt_cmp (pc_dnotinN hu100 (pv 1) (pe_fld (pv 0) rfl))) (pss_one (ps_dputN hu100 (pe_fld (pv 0) rfl) (pv 1) (pe_meth (pe_fld (pv 0) rfl) TN.cl mF GF hr bF .nil pass0 (pa_cons (pv 1) pa_nil)) rfl)) pss_nil)
      (pss_one (ps_ret (pe_dgetE hu100 (pe_fld (pv 0) rfl) (pv 1) (fun _ _ => rfl))))), ?_⟩
    obtain ⟨dx, fs, np, la, am, xm, hp, fM⟩ := id hM
    obtain ⟨dxn, fsn, ca, ba, la2, xc, xb, xl, hnp, fN⟩ := id fM.net
    refine ⟨_, rfl, _, rfl, p, Mc, dx, fs, _, rfl, hp, TM.cl, TM.n3, fM.l3, d1, m, keyB on, fl, rfl, rfl, fM.f1, nk_on hm, depth_on on, _, rfl, ?_⟩
    cases hv : valV fl (keyB on) with
    | some v =>
      refine iteF ?_
      obtain ⟨on2, o, ek, rfl, hW⟩ := fM.f2 _ _ hv
      rw [← keyB_inj ek] at hW
      refine ⟨_, rfl, p, Mc, dx, fs, _, rfl, hp, TM.cl, TM.n3, fM.l3, _, rfl, d1, m, keyB on, fl, _, rfl, rfl, fM.f1, nk_on hm, depth_on on, hv, ?_⟩
      exact q H o fl (fun _ _ _ h => h) hM (Nat.le_succ _) hW
    | none =>
      refine iteT ?_
      refine ⟨_, rfl, p, Mc, dx, fs, _, rfl, hp, TM.cl, TM.n2, fM.l2, np, dxn, fsn, rfl, hnp, fN.only _ (by decide +kernel), _, rfl, np, m, b, on, rfl, fM.net, ok, few, .inr hm, lon, fun H1 o s1 no hW => ?_⟩
      have hm1 := Same.sqt s1 hm
      have nd1 := fM.f1.mono (fun c ys h => Same.sqt s1 h) (fun o h => s1 _ _ h)
      refine ⟨_, rfl, p, Mc, dx, fs, _, rfl, s1 _ _ hp, TM.cl, TM.n3, fM.l3, _, rfl, d1, m, keyB on, fl, rfl, rfl, nd1, nk_on hm1, depth_on on, by omega, fun H4 k4 nd4 => ?_⟩
      obtain ⟨xs, hx, _⟩ := nd1
      have hx : H1 d1 = some (.ext _) := hx
      have hp4 := k4 _ _ (ext_ne hx (s1 _ _ hp) (fun _ z => nomatch z)) (s1 _ _ hp)
      have hW4 := ext_flow k4 hx hW
      have lv : valV (putK fl (keyB on) (.ref o)) (keyB on) = some (.ref o) := by rw [valV_put, if_pos rfl]
      refine ⟨_, rfl, p, Mc, dx, fs, _, rfl, hp4, TM.cl, TM.n3, fM.l3, _, rfl, d1, m, keyB on, _, _, rfl, rfl, nd4, nk_on (ext_sqt k4 hx hm1), depth_on on, lv, ?_⟩
      refine q H4 o _ (fun c u hc h => k4 c u hc (s1 _ _ h)) ⟨dx, fs, np, la, am, xm, hp4, ⟨fM.l1, fM.l2, fM.l3, fM.l4, fM.l5, fM.l6, fM.l7, ext_net k4 hx (fM.net.mono s1), nd4, FlowsOk.put (fun k v h => ?_) hW4, k4 _ _ (ext_ne hx (s1 _ _ fM.h6) (fun _ z => nomatch z)) (s1 _ _ fM.h6), k4 _ _ (ext_ne hx (s1 _ _ fM.h7) (fun _ z => nomatch z)) (s1 _ _ fM.h7), ext_rows k4 hx (fM.r7.mono s1), fM.only⟩⟩ (by have := length_putK fl (keyB on) (.ref o); omega) hW4
      obtain ⟨on2, o2, e1, e2, hW2⟩ := fM.f2 k v h
      exact ⟨on2, o2, e1, e2, ext_flow k4 hx (hW2.mono s1)⟩
def offs (b : Bd) : List Bool := List.replicate b.movers.length false
theorem moves_len (b : Bd) : (movesF b).length = b.movers.length := by
  unfold movesF Bd.movers
  rw [List.length_append, List.length_append, List.length_map, List.length_map, List.length_map]
theorem scStart : FnScope ["self", "movers", "_"] ["self"] (defScope sMachineStart) := ⟨rfl, rfl, rfl, by decide +kernel, rfl, by decide +kernel, by decide +kernel⟩
def spStart (K : PySem.W.Frag) (N W Mc : Addr) (P : Program) (w : World) : Sp := fun vs H Q _ => ∃ (p : Addr) (b : Bd) (hu : Int) (d1 d2 : Addr) (fl : List (NestedKey × V)), vs = [.ref p] ∧ MachAt K N W Mc P w H p b hu d1 d2 fl ∧ b.Ok ∧ Few b ∧ fl.length < 90000 ∧
  ∀ H' t tt fl', KeepP d1 H H' → H t = none → H' t = some (.tup [.ref tt, .bl (shortF b (offs b))]) → SqT K H' tt ((offs b).map V.bl) → MachAt K N W Mc P w H' p b hu d1 d2 fl' → Q (.ref t) H'
theorem MachAt.mono {N W Mc : Addr} {P : Program} {w : World} {H H' : Hp} {p : Addr} {b : Bd} {hu : Int} {d1 d2 : Addr} {fl : List (NestedKey × V)} (s : Same H H') : MachAt K N W Mc P w H p b hu d1 d2 fl → MachAt K N W Mc P w H' p b hu d1 d2 fl
  | ⟨dx, fs, np, la, am, xm, hp, f⟩ => ⟨dx, fs, np, la, am, xm, s _ _ hp, ⟨f.l1, f.l2, f.l3, f.l4, f.l5, f.l6, f.l7, f.net.mono s, f.f1.mono (fun c ys h => Same.sqt s h) (fun o h => s _ _ h), fun k v h => let ⟨on, o, e1, e2, hW⟩ := f.f2 k v h; ⟨on, o, e1, e2, hW.mono s⟩, s _ _ f.h6, s _ _ f.h7, f.r7.mono s, f.only⟩⟩
theorem ok_start {f fA C N W Mc sp sg : Addr} {mc : Value} {fd fdA : FuncData} {k : Nat} (F : Fun K "start" "Machine.start" sMachineStart f fd) (T : BTxt K mg C mc sp sg) (TM : MTxt K Mc) (TW : WTxt K W) (mA : Meth K Mc "flow_at" fA) (bA : Binds K fdA ["self", "movers"] []) (GA : FnOk P w K mg base CX0 (k + 4) fA fdA ["self", "movers"] (spFlowAt K N W Mc P w)) :
    FnOk P w K mg base CX0 (k + 5) f fd ["self"] (spStart K N W Mc P w) := by
  refine F.ok scStart (fun vs H Q E h => ?_) (fun cdv A outer s H vs Q E hr h => ?_)
  · obtain ⟨p, b, hu, d1, d2, fl, rfl, _⟩ := h
    rfl
  · obtain ⟨p, b, hu, d1, d2, fl, rfl, hM, ok, few, l9, q⟩ := h
    refine ⟨_, (pss_cons (ps_set (i := 1) scStart.nd rfl (.inl rfl) (pe_callTy call_tupA (by rfl) T.tup (by decide +kernel) (pa_cons (pe_lc (own := [("_", 2)]) (g := (gName 2)) (tt := tYes) (te := tC (.bl false)) rfl scStart.nd (pi_list (pe_fld (pv 0) rfl)) (blkOk_by (N := ["self", "movers", "_"]) (sc := defScope sMachineStart) (by decide +kernel)) (fun _ _ _ _ _ => (pg_name (i := 2) scStart.nd rfl (Or.inl rfl))) (fun _ _ _ _ _ => pts_nil) (fun _ _ _ _ _ => pe_bl)) pa_nil)))
      (pss_one (ps_ret (pe_tup (pa_cons (pv 1) (pa_cons (pe_fld (pe_meth (pv 0) TM.cl mA GA hr bA .nil pass0 (pa_cons (pv 1) pa_nil)) rfl) pa_nil)))))), ?_⟩
    obtain ⟨dx, fs, np, la, am, xm, hp, fM⟩ := id hM
    have lx := fM.r7.len
    rw [List.length_map, moves_len] at lx
    have m14 : b.movers.length ≤ 14 := by
      unfold Bd.movers
      rw [List.length_append, List.length_map]
      have := ok.sw
      have := ok.rl
      omega
    refine ⟨_, rfl, p, Mc, dx, fs, _, rfl, hp, TM.cl, TM.n7, fM.l7, am, rfl, ⟨_, sq fM.h7⟩, fun D nD => ?_⟩
    refine lc_list (K := K) (a := am) (xs := xm) (fun i G => Same H G ∧ G D = some (.lst ((List.replicate i false).map V.bl))) ⟨same_upd nD, upd_same⟩ (fun i G _ h => sq (h.1 _ _ fM.h7)) ?_ ?_
    · rintro i v G hi ⟨sm, hd⟩
      have hl2 := (List.getElem?_eq_some_iff.mp hi).1
      refine ⟨rfl, ?_⟩
      refine yesT ?_
      refine ⟨_, hd, ?_, same_mut sm nD, ?_⟩
      · rw [List.length_map, List.length_replicate]
        exact szlt (by omega)
      · rw [upd_same, List.replicate_succ', map_snoc]
    · rintro G ⟨sm, hd⟩
      rw [lx] at hd
      refine tup_any (.inl (sq hd)) fun tt H2 s2 htt => ?_
      have e2 := sm.trans s2
      refine ⟨_, rfl, _, rfl, p, dx, fs, rfl, e2 _ _ hp, fM.only _ (by decide +kernel), _, rfl, p, tt, b, hu, d1, d2, fl, offs b, rfl, hM.mono e2, ok, few, htt, List.length_replicate, l9, fun H3 o fl' k3 hM3 l3 hW => ?_⟩
      obtain ⟨dw, ca, ba, fsw, w1, w2, w3, w4, w5, w6⟩ := id hW
      refine ⟨o, W, dw, fsw, _, rfl, w1, TW.cl, TW.n1, w2, by show 2 ≤ sizeLine; decide, fun t nt => ?_⟩
      have s4 := same_upd (o := .tup [.ref tt, .bl (shortF b (offs b))]) nt
      obtain ⟨xs, hx, _⟩ := (fM.f1.mono (fun c ys h => Same.sqt e2 h) (fun o h => e2 _ _ h))
      have hx : H2 d1 = some (.ext _) := hx
      refine q _ t tt fl' (fun c u hc h => s4 _ _ (k3 c u hc (e2 _ _ h))) ?_ upd_same (Same.sqt s4 (ext_sqt k3 hx htt)) (hM3.mono s4)
      cases e : H t with
      | none => rfl
      | some u =>
        by_cases ed : t = d1
        · obtain ⟨xs3, hx3, _⟩ := hM3.choose_spec.choose_spec.choose_spec.choose_spec.choose_spec.choose_spec.2.f1
          rw [← ed, nt] at hx3
          cases hx3
        · have := k3 t u ed (e2 _ _ e)
          rw [nt] at this
          cases this
theorem scFirst : FnScope ["board"] ["board"] (defScope sFirstState) := ⟨rfl, rfl, rfl, by decide +kernel, rfl, by decide +kernel, by decide +kernel⟩
def spFirst (K : PySem.W.Frag) (C : Addr) : Sp := fun vs H Q _ => ∃ (pb : Addr) (b : Bd), vs = [.ref pb] ∧ BoardAt K C H pb b ∧ b.Ok ∧ Few b ∧
  ∀ H' t tt, Same H H' → H t = none → H' t = some (.tup [.ref tt, .bl (shortF b (offs b))]) → SqT K H' tt ((offs b).map V.bl) → Q (.ref t) H'
theorem ok_first {f fI fS C N W Mc : Addr} {ds : List Value} {fd fdI fdS : FuncData} {k : Nat} (F : Fun K "first_state" "first_state" sFirstState f fd) (TM : MTxt K Mc) (MM : Mk K Mc fI) (gM : mg "Machine" = some (.ref Mc)) (bM : Binds K fdI ["self", "board", "hurry"] ds) (hd : Vals [.int 0] ds)
    (GM : FnOk P w K mg base CX0 (k + 5) fI fdI ["self", "board", "hurry"] (spMachI K C N W Mc P w)) (mS : Meth K Mc "start" fS) (bS : Binds K fdS ["self"] []) (GS : FnOk P w K mg base CX0 (k + 5) fS fdS ["self"] (spStart K N W Mc P w)) :
    FnOk P w K mg base CX0 (k + 7) f fd ["board"] (spFirst K C) := by
  refine F.ok scFirst (fun vs H Q E h => ?_) (fun cdv A outer s H vs Q E hr h => ?_)
  · obtain ⟨pb, b, rfl, _⟩ := h
    rfl
  · obtain ⟨pb, b, rfl, hB, ok, few, q⟩ := h
    have hr5 : Room (k + 5) _ := hr.mono (by omega)
    refine ⟨_, (pss_one (ps_ret (pe_meth0 (pe_make MM GM (hr.mono (by omega)) (by rfl) gM bM hd pass0 (pa_cons (pv 0) pa_nil)) TM.cl mS GS hr5 bS .nil pass0))), ?_⟩
    refine ⟨_, rfl, fun x dx nx ndx nex => ?_⟩
    have s0 := same_mut (o := .ins Mc dx []) (same_upd (o := .own x) ndx) nx
    refine ⟨x, dx, pb, H, b, 0, rfl, upd_same, nx, s0, hB, ok, few, fun H1 d1 d2 e1 n1 n2 hM nd2 ne12 => ⟨rfl, ?_⟩⟩
    obtain ⟨dx2, fs2, np, la, am, xm, hp2, fM⟩ := id hM
    refine ⟨x, dx2, fs2, rfl, hp2, fM.only _ (by decide +kernel), x, b, 0, d1, d2, [], rfl, hM, ok, few, by decide, fun H2 t tt fl' k2 nt ht htt _ => ?_⟩
    exact q H2 t tt (fun c u h => k2 c u (ne_of_none h n1) (e1 _ _ h)) (e1.free nt) ht htt
/-- what the text says of an error class of its own at D, and that an error of it is one of L and none of I -/
structure ErrC (K : PySem.W.Frag) (D : Addr) : Prop where
  x : PySem.W.excIn K D [.type "ValueError", .type "Exception", .type "BaseException", .type "object"] "ValueError.__new__" = true
  k : PySem.W.keepIn K (.ref D) = true
  b : PySem.W.subIn K (.ref D) (.type "BaseException") = some true
  t : PySem.W.typeIn K (.ref D) = some (.type "type")
  e : PySem.W.exmOne K (.ref D) (.ref D) = some true
def rIsG (K : PySem.W.Frag) (D a : Addr) (cls : Value) (d : Option Addr) : List V → Hp → VK → Prop := fun xs H Q => cls = .ref D ∧ d = none ∧ rIsE K D a xs H Q
theorem call_isG {X : Cx} {a D : Addr} {oe : Obj} {cls : Value} {d : Option Addr} {pn : List (Addr × Obj)} (C : ExcC X.K D) (hz : Zc cls d oe) (hf : ∃ vs, oe.data = .fields vs) : CallR (X.suite a ((a, oe) :: pn)) (.builtin "isinstance") (rIsG X.K D a cls d) := by
  intro pins s σ H xs us Q I r h
  obtain ⟨h1, h2, h⟩ := h
  subst h1 h2
  exact call_isE C hz hf pins s σ H xs us Q I r h
theorem bt_bool : bootBuiltins "bool" = some (.type "bool") := by decide +kernel
theorem bt_ve : bootBuiltins "ValueError" = some (.type "ValueError") := by decide +kernel
def StAny (K : PySem.W.Frag) (H : Hp) (sd : Addr) (on : List Bool) (u : Bool) : Prop := ∃ tt, SqT K H sd [.ref tt, .bl u] ∧ SqT K H tt (on.map V.bl)
theorem StAny.mono {H H' : Hp} {sd : Addr} {on : List Bool} {u : Bool} (s : Same H H') : StAny K H sd on u → StAny K H' sd on u
  | ⟨tt, h1, h2⟩ => ⟨tt, Same.sqt s h1, Same.sqt s h2⟩
/-- a state that the board has -/
def goodB (b : Bd) (on : List Bool) (u : Bool) : Bool := decide (on.length = b.movers.length) && (u || !shortF b on)
def spChkS (K : PySem.W.Frag) (C D : Addr) : Sp := fun vs H Q E => ∃ (pb sd : Addr) (b : Bd) (on : List Bool) (u : Bool), vs = [.ref pb, .ref sd] ∧ BoardAt K C H pb b ∧ b.Ok ∧ Few b ∧ StAny K H sd on u ∧ on.length ≤ 1000 ∧
  (goodB b on u = true → ∀ H', Same H H' → Q .non H') ∧ (goodB b on u = false → ∀ H', Same H H' → E (.ref D) none H')
theorem scChkS : FnScope ["board", "state", "movers", "blown"] ["board", "state"] (defScope sCheckState) := ⟨rfl, rfl, rfl, by decide +kernel, rfl, by decide +kernel, by decide +kernel⟩
theorem ok_chkS {f fH fMv C D sp sg pMv : Addr} {mc : Value} {fd fdH fdMv : FuncData} {k : Nat} (F : Fun K "check_state" "check_state" sCheckState f fd) (T : BTxt K mg C mc sp sg) (XD : ErrC K D) (gD : mg "InvalidState" = some (.ref D))
    (FH : Fun K "is_short" "is_short" sIsShort fH fdH) (bH : Binds K fdH ["board", "state"] []) (gH : mg "is_short" = some (.ref fH)) (GH : FnOk P w K mg base CX0 (k + 5) fH fdH ["board", "state"] (spShort K C))
    (FMv : Fun K "movers" "Board.movers" sBoardMovers fMv fdMv) (bMv : Binds K fdMv ["self"] []) (PMv : PropOf K C "movers" pMv fMv) : FnOk P w K mg base (L2.CX P w) (k + 6) f fd ["board", "state"] (spChkS K C D) := by
  have GMv : FnOk P w K mg base CX0 1 fMv fdMv ["self"] (spMovers K C) := ok_movers FMv T
  refine F.okX scChkS (fun vs H Q E h => ?_) (fun cdv A outer s H vs Q E hr h => ?_)
  · obtain ⟨pb, sd, b, on, u, rfl, _⟩ := h
    rfl
  · obtain ⟨pb, sd, b, on, u, rfl, hB, ok, few, ⟨tt, h1, h2⟩, l1000, q1, q2⟩ := h
    have hr5 : Room (k + 5) _ := hr
    have hr2 : Room 2 _ := hr.mono (by omega)
    refine ⟨_, (pss_cons (ps_asg (pv 1) (pg_tup rfl (pgs_cons (pg_name (i := 2) scChkS.nd rfl (.inl rfl)) (pgs_cons (pg_name (i := 3) scChkS.nd rfl (.inl rfl)) pgs_nil))))
      (pss_cons (ps_if (pt_cmpR op_ne (pe_callB call_len_seq (by rfl) T.len PySem.boot_len (pa_cons (pv 2) pa_nil)) (pe_callB call_len_seq (by rfl) T.len PySem.boot_len (pa_cons (pe_prop (pv 0) T.cl PMv GMv hr2 bMv .nil pass0 rfl) pa_nil)) (nomark _)) (pss_one (ps_raise rfl (takes_of rfl rfl rfl rfl) (pmk_own PySem.F.excBase_ValueError XD.x gD XD.k (raises_own XD.b XD.t) (by exact rfl)))) pss_nil)
      (pss_one (ps_if (PW.pt (pw_and (pt_not (pt_val (pv 3))) (pw_and1 (pt_val (pe_call GH hr5 (by rfl) gH FH.kp bH .nil pass0 (pa_cons (pv 0) (pa_cons (pv 1) pa_nil))))))) (pss_one (ps_raise rfl (takes_of rfl rfl rfl rfl) (pmk_own PySem.F.excBase_ValueError XD.x gD XD.k (raises_own XD.b XD.t) (by exact rfl)))) pss_nil)))), ?_⟩
    obtain ⟨dxb, fsb, tn, ts, tr, tl, tc, tm, xr, xl, xc, hpb, fB, _⟩ := id hB
    refine ⟨_, rfl, sd, _, rfl, h1, rfl, _, _, rfl, _, _, rfl, rfl, ?_⟩
    refine ⟨_, rfl, tt, _, rfl, .inr h2, _, rfl, pb, dxb, fsb, rfl, hpb, pb, b, rfl, hB, fun tm' hm' => ⟨tm', _, rfl, .inr hm', rfl, _, rfl, ?_⟩⟩
    unfold goodB at q1 q2
    by_cases hl : on.length = b.movers.length
    · rw [decide_eq_true hl, Bool.true_and] at q1 q2
      have c1 : (!decide (V.int ((on.map V.bl).length : Nat) = V.int ((b.movers.map V.str).length : Nat))) = false := by
        rw [List.length_map, List.length_map, hl, decide_eq_true rfl]
        rfl
      rw [c1]
      refine iteF ?_
      refine ⟨_, rfl, _, rfl, ?_⟩
      cases u with
      | true =>
        refine iteF ?_
        refine iteF ?_
        exact q1 rfl H (Same.refl H)
      | false =>
        refine iteT ?_
        refine ⟨_, rfl, _, rfl, pb, sd, b, on, false, rfl, hB, ok, few, ⟨tt, h1, h2, hl⟩, fun H1 s1 => ⟨_, rfl, ?_⟩⟩
        cases e : shortF b on with
        | true =>
          refine iteT ?_
          exact q2 (by rw [e]; rfl) H1 s1
        | false =>
          refine iteF ?_
          exact q1 (by rw [e]; rfl) H1 s1
    · rw [decide_eq_false hl, Bool.false_and] at q1 q2
      have c1 : (!decide (V.int ((on.map V.bl).length : Nat) = V.int ((b.movers.map V.str).length : Nat))) = true := by
        rw [decide_eq_false fun e => hl (by have e := V.int.inj e; rw [List.length_map, List.length_map] at e; exact Int.ofNat.inj e)]
        rfl
      rw [c1]
      refine iteT ?_
      exact q2 rfl H (Same.refl H)
theorem scLFirst : FnScope ["spec", "on", "name"] ["spec"] (defScope sLawFirst) := ⟨rfl, rfl, rfl, by decide +kernel, rfl, by decide +kernel, by decide +kernel⟩
def spLFirst (K : PySem.W.Frag) : Sp := fun vs H Q _ => ∃ (p : Addr) (b : Bd), vs = [.ref p] ∧ SpecAt K H p b ∧ Few b ∧ b.Ok ∧ ∀ H' t tt, Same H H' → H t = none → H' t = some (.tup [.ref tt, .bl (shortF b (offs b))]) → SqT K H' tt ((offs b).map V.bl) → Q (.ref t) H'
theorem ok_lfirst {f fV fR : Addr} {fd fdV fdR : FuncData} {k : Nat} (F : Fun K "_law_first" "_law_first" sLawFirst f fd) (FV : Fun K "_law_movers" "_law_movers" sLawMovers fV fdV) (bV : Binds K fdV ["spec"] []) (gV : mg "_law_movers" = some (.ref fV)) (mt : mg "tuple" = none)
    (FR : Fun K "_law_reaches" "_law_reaches" sLawReaches fR fdR) (bR : Binds K fdR ["spec", "on"] []) (gR : mg "_law_reaches" = some (.ref fR)) (GR : FnOk P w K mg base CX0 (k + 4) fR fdR ["spec", "on"] (spReaches K)) : FnOk P w K mg base CX0 (k + 5) f fd ["spec"] (spLFirst K) := by
  have GV : FnOk P w K mg base CX0 1 fV fdV ["spec"] (spMoversL K) := ok_moversL FV
  refine F.ok scLFirst (fun vs H Q E h => ?_) (fun cdv A outer s H vs Q E hr h => ?_)
  · obtain ⟨p, b, rfl, _⟩ := h
    rfl
  · obtain ⟨p, b, rfl, hp, few, ok, q⟩ := h
    have hr1 : Room 1 _ := hr.mono (by omega)
    refine ⟨_, (pss_cons (ps_setLc (i := 1) (own := [("name", 2)]) (g := (gName 2)) (tt := tYes) (te := tC (.bl false)) rfl scLFirst.nd rfl rfl (sw_true rfl rfl rfl (by decide +kernel)) (pi_list (pe_call GV hr1 (by rfl) gV FV.kp bV .nil pass0 (pa_cons (pv 0) pa_nil))) (blkOk_by (N := ["spec", "on", "name"]) (sc := defScope sLawFirst) (by decide +kernel)) (fun _ _ _ _ _ => (pg_name (i := 2) scLFirst.nd rfl (Or.inl rfl))) (fun _ _ _ _ _ => pts_nil) (fun _ _ _ _ _ => pe_bl))
      (pss_one (ps_ret (pe_tup (pa_cons (pe_callTy call_tupA (by rfl) mt (by decide +kernel) (pa_cons (pv 1) pa_nil)) (pa_cons (pe_call GR hr (by rfl) gR FR.kp bR .nil pass0 (pa_cons (pv 0) (pa_cons (pv 1) pa_nil))) pa_nil)))))), ?_⟩
    have m14 : b.movers.length ≤ 14 := by
      unfold Bd.movers
      rw [List.length_append, List.length_map]
      have := ok.sw
      have := ok.rl
      omega
    refine ⟨_, rfl, p, b, rfl, hp, few, fun H1 om s1 nm hm => ⟨om, rfl, ⟨_, sq hm⟩, fun D nD => ?_⟩⟩
    refine lc_list (K := K) (a := om) (xs := b.movers.map V.str) (fun i G => Same H1 G ∧ G D = some (.lst ((List.replicate i false).map V.bl))) ⟨same_upd nD, upd_same⟩ (fun i G _ h => sq (h.1 _ _ hm)) ?_ ?_
    · rintro i v G hi ⟨sm, hd⟩
      have hl2 := (List.getElem?_eq_some_iff.mp hi).1
      rw [List.length_map] at hl2
      refine ⟨rfl, ?_⟩
      refine yesT ?_
      refine ⟨_, hd, ?_, same_mut sm nD, ?_⟩
      · rw [List.length_map, List.length_replicate]
        exact szlt (by omega)
      · rw [upd_same, List.replicate_succ', map_snoc]
    · rintro G ⟨sm, hd⟩
      rw [List.length_map] at hd
      have s2 := s1.trans sm
      refine ⟨_, rfl, ?_⟩
      refine tup_any (.inl (sq hd)) fun tt H3 s3 htt => ?_
      have s13 := s2.trans s3
      refine ⟨_, rfl, _, rfl, p, D, b, offs b, rfl, hp.mono s13, few, ok, .inl (sq (s3 _ _ hd)), List.length_replicate, fun H4 s4 => ⟨by show 2 ≤ sizeLine; decide, fun t nt => ?_⟩⟩
      have s5 := same_upd (o := .tup [.ref tt, .bl (shortF b (offs b))]) nt
      exact q _ t tt ((s13.trans s4).trans s5) ((s13.trans s4).free nt) upd_same (Same.sqt (s4.trans s5) htt)
theorem tyx_tup {K : PySem.W.Frag} {H : Hp} {a : Addr} {xs : List V} (h : SqT K H a xs) : TyX K H (.ref a) (.type "tuple") := by
  rcases h with (h | ⟨o, h⟩) | ⟨o, its, n, h, hc, _⟩
  · exact .base (.tup h)
  · exact .fTuple h
  · exact .kTuple h hc
theorem blsL_dp {K : PySem.W.Frag} {H : Hp} : ∀ xs : List Bool, DpAll K H (xs.map V.bl) (xs.map PyData.bool)
  | [] => .nil
  | x :: xs => .cons (.bl x) (blsL_dp xs)
theorem blsL_lay : ∀ xs : List Bool, PyData.canLayAll0 (xs.map PyData.bool) = true
  | [] => rfl
  | x :: xs => blsL_lay xs
theorem blsL_depth : ∀ xs : List Bool, PyData.depthAll (xs.map PyData.bool) = 0
  | [] => rfl
  | x :: xs => by
    show max (PyData.depth (.bool x)) (PyData.depthAll (xs.map PyData.bool)) = 0
    rw [blsL_depth xs]
    rfl
def stD (on : List Bool) (u : Bool) : PyData := .tuple [.tuple (on.map PyData.bool), .bool u]
theorem stD_shaped (on : List Bool) (u : Bool) : SeqAt.shaped (stD on u) = true := by
  show (PyData.canLayAll0 [.tuple (on.map PyData.bool), .bool u] && decide (PyData.depthAll [.tuple (on.map PyData.bool), .bool u] + 1 ≤ 64)) = true
  have e1 : PyData.canLayAll0 [.tuple (on.map PyData.bool), .bool u] = true := by
    show (PyData.canLayAll0 (on.map PyData.bool) && true) = true
    rw [blsL_lay on]
    rfl
  have e2 : PyData.depthAll [.tuple (on.map PyData.bool), .bool u] = 1 := by
    show max (PyData.depthAll (on.map PyData.bool) + 1) 0 = 1
    rw [blsL_depth on]
    rfl
  rw [e1, e2]
  decide
theorem ne_states {K : PySem.W.Frag} {H : Hp} {a c : Addr} {on : List Bool} {u : Bool} {Q : VK} (h1 : StAny K H a on u) (h2 : StAny K H c on u) (q : Q (.bl false) H) : rNeD K (.ref a) (.ref c) H Q := by
  obtain ⟨t1, a1, b1⟩ := h1
  obtain ⟨t2, a2, b2⟩ := h2
  have hs := stD_shaped on u
  refine ⟨stD on u, stD on u, .tup a1 (.cons (.tup b1 (blsL_dp on)) (.cons (.bl u) .nil)), .tup a2 (.cons (.tup b2 (blsL_dp on)) (.cons (.bl u) .nil)), hs, hs, ?_⟩
  have e : PyData.eqv (stD on u) (stD on u) = true := SeqAt.eqv_refl _ (SeqAt.canLay_of_shaped hs)
  rw [e]
  exact q
theorem scLSame : FnScope ["actual", "expected", "on"] ["actual", "expected"] (defScope sLawSameState) := ⟨rfl, rfl, rfl, by decide +kernel, rfl, by decide +kernel, by decide +kernel⟩
def spLSame (K : PySem.W.Frag) : Sp := fun vs H Q _ => ∃ (a c : Addr) (on : List Bool) (u : Bool), vs = [.ref a, .ref c] ∧ StAny K H a on u ∧ StAny K H c on u ∧ on.length ≤ 1000 ∧ ∀ H', Same H H' → Q (.bl true) H'
theorem ok_lsame {f : Addr} {fd : FuncData} {k : Nat} (F : Fun K "_law_same_state" "_law_same_state" sLawSameState f fd) (mi : mg "isinstance" = none) (mt : mg "tuple" = none) (mb : mg "bool" = none) (ml : mg "len" = none) (ma : mg "all" = none) : FnOk P w K mg base CX0 (k + 1) f fd ["actual", "expected"] (spLSame K) := by
  refine F.ok scLSame (fun vs H Q E h => ?_) (fun cdv A outer s H vs Q E hr h => ?_)
  · obtain ⟨a, c, on, u, rfl, _⟩ := h
    rfl
  · obtain ⟨a, c, on, u, rfl, ha, hc, hl, q⟩ := h
    refine ⟨_, (pss_cons (ps_if (PW.pt (pw_or (pt_not (pt_val (pe_callB call_isi (by rfl) mi (by decide +kernel) (pa_cons (pv 0) (pa_cons (pe_bltn (v := .ty "tuple") (by rfl) mt bt_tuple rfl) pa_nil))))) (pw_or (pt_cmpR op_ne (pe_callB call_len_seq (by rfl) ml PySem.boot_len (pa_cons (pv 0) pa_nil)) pe_int (nomark _)) (pw_or1 (pt_not (pt_val (pe_callB call_isi (by rfl) mi (by decide +kernel) (pa_cons (pe_ix ix_tup (pv 0) pe_int (fun _ _ => rfl)) (pa_cons (pe_bltn (v := .ty "tuple") (by rfl) mt bt_tuple rfl) pa_nil))))))))) (pss_one (ps_ret pe_bl)) pss_nil)
      (pss_cons (ps_if (PW.pt (pw_or (pt_not (pt_val (pe_callB call_isi (by rfl) mi (by decide +kernel) (pa_cons (pe_ix ix_tup (pv 0) pe_int (fun _ _ => rfl)) (pa_cons (pe_bltn (v := .ty "bool") (by rfl) mb bt_bool rfl) pa_nil))))) (pw_or1 (pt_cmpR (op_neD hr.units) (pv 0) (pv 1) (nomark _))))) (pss_one (ps_ret pe_bl)) pss_nil)
      (pss_one (ps_ret (pe_callB (cr_all rfl) (by rfl) ma (by decide +kernel) (pa_cons (pe_lc (own := [("on", 2)]) (g := (gName 2)) (tt := tYes) (te := tCB (rIsi K) (tCons (tVar 2) (tCons (tC (.ty "bool")) tNil))) rfl scLSame.nd (pi_tup (pe_ix ix_tup (pv 0) pe_int (fun _ _ => rfl))) (blkOk_by (N := ["actual", "expected", "on"]) (sc := defScope sLawSameState) (by decide +kernel)) (fun _ _ _ _ _ => (pg_name (i := 2) scLSame.nd rfl (Or.inl rfl))) (fun _ _ _ _ _ => pts_nil) (fun _ _ _ _ _ => (pe_callB call_isi (by rfl) mi (by decide +kernel) (pa_cons (pv 2) (pa_cons (pe_bltn (v := .ty "bool") (by rfl) mb bt_bool rfl) pa_nil))))) pa_nil)))))), ?_⟩
    obtain ⟨tt, a1, a2⟩ := id ha
    refine ⟨_, rfl, _, _, .type "tuple", .type "tuple", true, rfl, .ty "tuple", tyx_tup a1, kit_ty (by decide +kernel), _, rfl, ?_⟩
    refine iteF ?_
    refine ⟨_, rfl, a, _, rfl, .inr a1, rfl, _, rfl, ?_⟩
    refine iteF ?_
    refine ⟨_, rfl, a, _, 0, _, rfl, rfl, a1, rfl, _, _, .type "tuple", .type "tuple", true, rfl, .ty "tuple", tyx_tup a2, kit_ty (by decide +kernel), _, rfl, ?_⟩
    refine iteF ?_
    refine ⟨_, rfl, a, _, 1, _, rfl, rfl, a1, rfl, _, _, .type "bool", .type "bool", true, rfl, .ty "bool", .base (.bl _), kit_ty (by decide +kernel), _, rfl, ?_⟩
    refine iteF ?_
    refine ⟨_, rfl, _, rfl, ne_states ha hc ⟨_, rfl, ?_⟩⟩
    refine iteF ?_
    refine ⟨_, rfl, a, _, 0, _, rfl, rfl, a1, rfl, tt, rfl, ⟨_, a2⟩, fun D nD => ?_⟩
    refine lc_tup (K := K) (a := tt) (xs := on.map V.bl) (fun i G => Same H G ∧ G D = some (.lst ((List.replicate i true).map V.bl))) ⟨same_upd nD, upd_same⟩ (fun i G _ h => Same.sqt h.1 a2) ?_ ?_
    · rintro i v G hi ⟨sm, hd⟩
      have hl2 := (List.getElem?_eq_some_iff.mp hi).1
      rw [List.length_map] at hl2
      rw [List.getElem?_map] at hi
      obtain ⟨z, _, rfl⟩ := Option.map_eq_some_iff.mp hi
      refine ⟨rfl, ?_⟩
      refine yesT ?_
      refine ⟨_, rfl, _, _, .type "bool", .type "bool", true, rfl, .ty "bool", .base (.bl z), kit_ty (by decide +kernel), ?_⟩
      refine ⟨_, hd, ?_, same_mut sm nD, ?_⟩
      · rw [List.length_map, List.length_replicate]
        exact szlt (by omega)
      · rw [upd_same, List.replicate_succ', map_snoc]
    · rintro G ⟨sm, hd⟩
      refine ⟨D, _, rfl, sq hd, ?_⟩
      have e1 : (List.replicate (on.map V.bl).length true).all id = true := by simp
      rw [e1]
      exact q G sm
def wordG (g : Bool) : Str := if g = true then "taken" else "refused"
def spTold (K : PySem.W.Frag) (C : Addr) : Sp := fun vs H Q _ => ∃ (pb sd : Addr) (b : Bd) (on : List Bool) (u : Bool), vs = [.ref pb, .ref sd] ∧ BoardAt K C H pb b ∧ b.Ok ∧ Few b ∧ StAny K H sd on u ∧ on.length ≤ 1000 ∧
  ∀ H' o, Same H H' → H o = none → H' o = some (.tup [.str (wordG (goodB b on u)), .int 1]) → Q (.ref o) H'
theorem scTold : FnScope ["board", "state", "e"] ["board", "state"] (defScope sLawTold) := ⟨rfl, rfl, rfl, by decide +kernel, rfl, by decide +kernel, by decide +kernel⟩
theorem ok_told {f fC C D B I L : Addr} {fd fdC : FuncData} {k : Nat} (F : Fun K "_law_told" "_law_told" sLawTold f fd) (XD : ErrC K D) (XC : ExcC K D) (gD : mg "InvalidState" = some (.ref D))
    (gB : mg "InvalidBoard" = some (.ref B)) (gI : mg "InvalidPlay" = some (.ref I)) (gL : mg "LeverhouseError" = some (.ref L)) (kB : PySem.W.kitOne K (.ref D) (.ref B) = some false) (kI : PySem.W.kitOne K (.ref D) (.ref I) = some false) (kL : PySem.W.kitOne K (.ref D) (.ref L) = some true) (kV : PySem.W.kitOne K (.ref D) (.type "ValueError") = some true)
    (mi : mg "isinstance" = none) (mt : mg "int" = none) (mv : mg "ValueError" = none)
    (FC : Fun K "check_state" "check_state" sCheckState fC fdC) (bC : Binds K fdC ["board", "state"] []) (gC : mg "check_state" = some (.ref fC)) (GC : FnOk P w K mg base (L2.CX P w) (k + 1) fC fdC ["board", "state"] (spChkS K C D)) :
    FnOk P w K mg base CX0 (k + 2) f fd ["board", "state"] (spTold K C) := by
  refine F.ok scTold (fun vs H Q E h => ?_) (fun cdv A outer s H vs Q E hr h => ?_)
  · obtain ⟨pb, sd, b, on, u, rfl, _⟩ := h
    rfl
  · obtain ⟨pb, sd, b, on, u, rfl, hB, ok, few, hS, hl, q⟩ := h
    refine ⟨_, pss_cons (ps_try_as (i := 2) (tb := fun W => tIfS (tTest (tOp (fun x y H Q => y = .non ∧ Q (.bl (!decide (x = .non))) H) (tCallS (spChkS K C D) (WE W) (tCons (tVar 0) (tCons (tVar 1) tNil))) (tC .non))) (tRet (tTup (tCons (tC (.str "wrong")) (tCons (tC (.int 0)) tNil)))) tNext)
          (ts := fun a cls d => tSeq (tIfS (tOr (tB (tCB (rIsG K D a cls d) (tCons (tVar 2) (tCons (tC (.ref B)) tNil)))) (tOr (tB (tCB (rIsG K D a cls d) (tCons (tVar 2) (tCons (tC (.ref I)) tNil)))) (tNot (tB (tCB (rIsG K D a cls d) (tCons (tVar 2) (tCons (tC (.ty "ValueError")) tNil)))))))
              (tRet (tTup (tCons (tC (.str "wrong")) (tCons (tC (.int 1)) tNil)))) tNext)
            (tRet (tTup (tCons (tC (.str "refused")) (tCons (tCB (fun xs H Q => (∃ i, xs = [.int i] ∧ Q (.int i) H) ∨ ∃ k, xs = [.bl k] ∧ Q (.int (if k then 1 else 0)) H) (tCons (tCB (rIsG K D a cls d) (tCons (tVar 2) (tCons (tC (.ref L)) tNil))) tNil)) tNil))))) (Wout := fun _ _ _ _ => False) rfl rfl scTold.nd rfl rfl ⟨rfl, by decide, Or.inl gD⟩ takes0
          (fun W pn xe tk _ => pss_one (ps_if (pt_cmpR op_notN (pe_callS GC hr rfl gC FC.kp bC (fun σ => passAt tk σ) (by exact (pa_cons (pv 0) (pa_cons (pv 1) pa_nil)))) pe_non (nomark _)) (pss_one (ps_ret (pe_tup (pa_cons pe_str (pa_cons pe_int pa_nil))))) pss_nil))
          (fun a oe cls d pn hz hf => pss_cons (ps_if (PW.pt (pw_or (pt_val (pe_callB (call_isG XC hz hf) (by rfl) mi (by decide +kernel) (pa_cons (pv 2) (pa_cons (pe_glob (v := .ref B) rfl gB rfl) pa_nil))))
              (pw_or (pt_val (pe_callB (call_isG XC hz hf) (by rfl) mi (by decide +kernel) (pa_cons (pv 2) (pa_cons (pe_glob (v := .ref I) rfl gI rfl) pa_nil))))
              (pw_or1 (pt_not (pt_val (pe_callB (call_isG XC hz hf) (by rfl) mi (by decide +kernel) (pa_cons (pv 2) (pa_cons (pe_bltn (v := .ty "ValueError") (by rfl) mv bt_ve rfl) pa_nil))))))))) (pss_one (ps_ret (pe_tup (pa_cons pe_str (pa_cons pe_int pa_nil))))) pss_nil)
            (pss_one (ps_ret (pe_tup (pa_cons pe_str (pa_cons (pe_callTy call_int1 (by rfl) mt (by decide +kernel) (pa_cons (pe_callB (call_isG XC hz hf) (by rfl) mi (by decide +kernel) (pa_cons (pv 2) (pa_cons (pe_glob (v := .ref L) rfl gL rfl) pa_nil))) pa_nil)) pa_nil)))))))
      (pss_one (ps_ret (pe_tup (pa_cons pe_str (pa_cons pe_int pa_nil))))), ?_⟩
    refine ⟨_, rfl, _, rfl, pb, sd, b, on, u, rfl, hB, ok, few, hS, hl, fun e H1 s1 => ⟨rfl, _, rfl, ?_⟩, fun e H1 s1 => ?_⟩
    · rw [e] at q
      refine iteF ?_
      refine ⟨by show 2 ≤ sizeLine; decide, fun o no => ?_⟩
      exact q _ o (s1.trans (same_upd no)) (s1.free no) upd_same
    · rw [e] at q
      refine ⟨true, XD.e, fun _ a ha => ?_, fun z => nomatch z⟩
      refine ⟨_, rfl, rfl, rfl, _, _, false, rfl, fun u h => h, kB, _, rfl, ?_⟩
      refine iteF ?_
      refine ⟨_, rfl, rfl, rfl, _, _, false, rfl, fun u h => h, kI, _, rfl, ?_⟩
      refine iteF ?_
      refine ⟨_, rfl, rfl, rfl, _, _, true, rfl, fun u h => h, kV, _, rfl, ?_⟩
      refine iteF ?_
      refine ⟨_, rfl, rfl, rfl, _, _, true, rfl, fun u h => h, kL, .inr ⟨true, rfl, by show 2 ≤ sizeLine; decide, fun o no => ?_⟩⟩
      exact q _ o (s1.trans (same_upd no)) (s1.free no) upd_same
@[irreducible] def rSlI (K : PySem.W.Frag) : V → Option Int → Option Int → Hp → VK → Prop := rSlA K
theorem sl_tupI {X : Cx} : SlR X (rSlI X.K) := by
  unfold rSlI
  exact sl_tupA
theorem cutT {K : PySem.W.Frag} {a : Addr} {xs : List V} {lo hi : Option Int} {H : Hp} {Q : VK} (h : SqT K H a xs) (q : ∀ p H', Same H H' → SqT K H' p (cutV xs lo hi) → Q (.ref p) H') : rSlI K (.ref a) lo hi H Q := by
  unfold rSlI
  refine ⟨a, xs, rfl, h, fun ⟨e1, e2⟩ => q a H (Same.refl H) ?_, fun _ p np => q p _ (same_upd np) (st upd_same)⟩
  unfold cutV
  rw [e1, e2, List.drop_zero, Nat.sub_zero, List.take_length]
  exact h
/-! ### the law of k15 -/
def wordD (g : Bool) : PyData := .tuple [.str (wordG g), .int 1]
theorem wordD_shaped (g : Bool) : SeqAt.shaped (wordD g) = true := by cases g <;> decide +kernel
theorem wordD_eqv (g g' : Bool) : PyData.eqv (wordD g) (wordD g') = decide (g = g') := by cases g <;> cases g' <;> decide +kernel
theorem ne_word {K : PySem.W.Frag} {H : Hp} {o o2 : Addr} {g g' : Bool} {Q : VK} (h1 : SqT K H o [.str (wordG g), .int 1]) (h2 : SqT K H o2 [.str (wordG g'), .int 1]) (q : Q (.bl (!decide (g = g'))) H) : rNeD K (.ref o) (.ref o2) H Q := by
  refine ⟨wordD g, wordD g', .tup h1 (.cons (.str _) (.cons (.int _) .nil)), .tup h2 (.cons (.str _) (.cons (.int _) .nil)), wordD_shaped g, wordD_shaped g', ?_⟩
  rw [wordD_eqv]
  exact q
theorem eq_word {K : PySem.W.Frag} {H : Hp} {o o2 : Addr} {g g' : Bool} {Q : VK} (h1 : SqT K H o [.str (wordG g), .int 1]) (h2 : SqT K H o2 [.str (wordG g'), .int 1]) (q : Q (.bl (decide (g = g'))) H) : rEqD K (.ref o) (.ref o2) H Q := by
  refine ⟨wordD g, wordD g', .tup h1 (.cons (.str _) (.cons (.int _) .nil)), .tup h2 (.cons (.str _) (.cons (.int _) .nil)), wordD_shaped g, wordD_shaped g', ?_⟩
  rw [wordD_eqv]
  exact q
theorem good_true (b : Bd) {on : List Bool} (h : on.length = b.movers.length) : goodB b on true = true := by
  unfold goodB
  rw [decide_eq_true h]
  rfl
theorem good_short (b : Bd) {on : List Bool} (h : on.length = b.movers.length) (u : Bool) : goodB b on (u || shortF b on) = true := by
  unfold goodB
  rw [decide_eq_true h]
  cases u <;> cases shortF b on <;> rfl
theorem good_false (b : Bd) {on : List Bool} (h : on.length = b.movers.length) : goodB b on false = !shortF b on := by
  unfold goodB
  rw [decide_eq_true h]
  cases shortF b on <;> rfl
theorem good_len (b : Bd) {on : List Bool} (h : on.length ≠ b.movers.length) (u : Bool) : goodB b on u = false := by
  unfold goodB
  rw [decide_eq_false h]
  rfl
theorem ix_pick {K : PySem.W.Frag} {H : Hp} {ol e1 e2 : Addr} {g : Bool} {Q : VK} (hol : H ol = some (.lst [.ref e1, .ref e2])) (h1 : SqT K H e1 [.str "taken", .int 1]) (h2 : SqT K H e2 [.str "refused", .int 1]) (q : ∀ oe, SqT K H oe [.str (wordG (!g)), .int 1] → Q (.ref oe) H) : rIxL K (.ref ol) (.int (if g = true then 1 else 0)) H Q := by
  cases g with
  | true => exact ⟨ol, _, 1, _, rfl, rfl, sq hol, rfl, q e2 h2⟩
  | false => exact ⟨ol, _, 0, _, rfl, rfl, sq hol, rfl, q e1 h1⟩
theorem seq_if {c : TT} {b t : TS} {D : Ends} {σ : L2.St} {H : Hp} (J : Hp → Prop) (hc : ∀ Q : Bool → Hp → Prop, (∀ G, J G → Q false G) → c σ H Q) (ht : ∀ G, J G → t D σ G) : tNext { nx := tSeq (tIfS c b tNext) t D, rt := D.rt, bk := D.bk, ct := D.ct } σ H := by
  refine hc _ fun G j => ?_
  refine iteF ?_
  exact ht G j
def spLaw (K : PySem.W.Frag) : Sp := fun vs H Q _ => ∃ (a : Addr) (ns : List Int), vs = [.ref a] ∧ SqL K H a (ns.map V.int) ∧ ns.length ≤ 63 ∧ ∀ H', Q (.bl true) H'
theorem scLaw : FnScope ["script", "numbers", "spec", "board", "state", "first", "expected"] ["script"] (defScope sLaw) := ⟨rfl, rfl, rfl, by decide +kernel, rfl, by decide +kernel, by decide +kernel⟩
structure Txt (mg : Str → Option Value) : Prop where
  abs : mg "abs" = none
  int : mg "int" = none
  range : mg "range" = none
  max : mg "max" = none
  list : mg "list" = none
  isi : mg "isinstance" = none
  bool : mg "bool" = none
  ve : mg "ValueError" = none
  len : mg "len" = none
theorem ok_law {f fN fB fM fS fF fE fL fT fR C : Addr} {fd fdN fdB fdM fdS fdF fdE fdL fdT fdR : FuncData} (F : Fun K "law" "law" sLaw f fd) (X : Txt mg)
    (FN : Fun K "_law_numbers" "_law_numbers" sLawNumbers fN fdN) (bN : Binds K fdN ["script", "many"] []) (gN : mg "_law_numbers" = some (.ref fN)) (GN : FnOk P w K mg base CX0 2 fN fdN ["script", "many"] (spNumbers K))
    (FB : Fun K "_law_board" "_law_board" sLawBoard fB fdB) (bB : Binds K fdB ["numbers", "big"] []) (gB : mg "_law_board" = some (.ref fB)) (GB : FnOk P w K mg base CX0 3 fB fdB ["numbers", "big"] (spBoard K))
    (FM : Fun K "_law_made" "_law_made" sLawMade fM fdM) (bM : Binds K fdM ["spec"] []) (gM : mg "_law_made" = some (.ref fM)) (GM : FnOk P w K mg base CX0 6 fM fdM ["spec"] (spMade K C))
    (FS : Fun K "_law_state" "_law_state" sLawState fS fdS) (bS : Binds K fdS ["spec", "numbers", "at"] []) (gS : mg "_law_state" = some (.ref fS)) (GS : FnOk P w K mg base CX0 5 fS fdS ["spec", "numbers", "at"] (spState K))
    (FF : Fun K "first_state" "first_state" sFirstState fF fdF) (bF : Binds K fdF ["board"] []) (gF : mg "first_state" = some (.ref fF)) (GF : FnOk P w K mg base CX0 7 fF fdF ["board"] (spFirst K C))
    (FE : Fun K "_law_same_state" "_law_same_state" sLawSameState fE fdE) (bE : Binds K fdE ["actual", "expected"] []) (gE : mg "_law_same_state" = some (.ref fE)) (GE : FnOk P w K mg base CX0 1 fE fdE ["actual", "expected"] (spLSame K))
    (FL : Fun K "_law_first" "_law_first" sLawFirst fL fdL) (bL : Binds K fdL ["spec"] []) (gL : mg "_law_first" = some (.ref fL)) (GL : FnOk P w K mg base CX0 5 fL fdL ["spec"] (spLFirst K))
    (FT : Fun K "_law_told" "_law_told" sLawTold fT fdT) (bT : Binds K fdT ["board", "state"] []) (gT : mg "_law_told" = some (.ref fT)) (GT : FnOk P w K mg base CX0 7 fT fdT ["board", "state"] (spTold K C))
    (FR : Fun K "_law_reaches" "_law_reaches" sLawReaches fR fdR) (bR : Binds K fdR ["spec", "on"] []) (gR : mg "_law_reaches" = some (.ref fR)) (GR : FnOk P w K mg base CX0 4 fR fdR ["spec", "on"] (spReaches K)) :
    FnOk P w K mg base CX0 8 f fd ["script"] (spLaw K) := by
  refine F.ok (k := 7) scLaw (fun vs H Q E h => ?_) (fun cdv A outer s H vs Q E hr h => ?_)
  · obtain ⟨a, ns, rfl, _⟩ := h
    rfl
  · obtain ⟨a, cs, rfl, ha, h63, q⟩ := h
    refine ⟨_, (pss_cons (ps_set (i := 1) scLaw.nd rfl (.inl rfl) (pe_call GN (hr.mono (by decide)) (by rfl) gN FN.kp bN .nil pass0 (pa_cons (pv 0) (pa_cons pe_int pa_nil))))
      (pss_cons (ps_set (i := 2) scLaw.nd rfl (.inl rfl) (pe_call GB (hr.mono (by decide)) (by rfl) gB FB.kp bB .nil pass0 (pa_cons (pv 1) (pa_cons pe_bl pa_nil))))
      (pss_cons (ps_set (i := 3) scLaw.nd rfl (.inl rfl) (pe_call GM (hr.mono (by decide)) (by rfl) gM FM.kp bM .nil pass0 (pa_cons (pv 2) pa_nil)))
      (pss_cons (ps_set (i := 4) scLaw.nd rfl (.inl rfl) (pe_call GS (hr.mono (by decide)) (by rfl) gS FS.kp bS .nil pass0 (pa_cons (pv 2) (pa_cons (pv 1) (pa_cons pe_int pa_nil)))))
      (pss_cons (ps_set (i := 5) scLaw.nd rfl (.inl rfl) (pe_call GF hr (by rfl) gF FF.kp bF .nil pass0 (pa_cons (pv 3) pa_nil)))
      (pss_cons (ps_if (PW.pt (pw_or (pt_not (pt_val (pe_call GE (hr.mono (by decide)) (by rfl) gE FE.kp bE .nil pass0 (pa_cons (pv 5) (pa_cons (pe_call GL (hr.mono (by decide)) (by rfl) gL FL.kp bL .nil pass0 (pa_cons (pv 2) pa_nil)) pa_nil))))) (pw_or1 (pt_cmpR (op_neD hr.units) (pe_call GT (hr.mono (by decide)) (by rfl) gT FT.kp bT .nil pass0 (pa_cons (pv 3) (pa_cons (pv 5) pa_nil))) (pe_tup (pa_cons pe_str (pa_cons pe_int pa_nil))) (nomark _))))) (pss_one (ps_ret pe_bl)) pss_nil)
      (pss_cons (ps_if (pt_cmpR (op_neD hr.units) (pe_call GT (hr.mono (by decide)) (by rfl) gT FT.kp bT .nil pass0 (pa_cons (pv 3) (pa_cons (pe_tup (pa_cons (pe_op op_catA (pe_ix ix_tup (pv 4) pe_int (fun _ _ => rfl)) (pe_tup (pa_cons (pe_cmpR op_eq (pe_op op_modW (pe_callTy call_int1 (by rfl) X.int (by decide +kernel) (pa_cons (pe_ix ix_list (pv 1) pe_int (fun _ _ => rfl)) pa_nil)) pe_int) pe_int (nomark _)) pa_nil))) (pa_cons (pe_ix ix_tup (pv 4) pe_int (fun _ _ => rfl)) pa_nil))) pa_nil))) (pe_tup (pa_cons pe_str (pa_cons pe_int pa_nil))) (nomark _)) (pss_one (ps_ret pe_bl)) pss_nil)
      (pss_cons (ps_if (PW.pt (pw_and (pt_cmpR op_gt (pe_callB call_len_seq (by rfl) X.len PySem.boot_len (pa_cons (pe_ix ix_tup (pv 4) pe_int (fun _ _ => rfl)) pa_nil)) pe_int (nomark _)) (pw_and1 (pt_cmpR (op_neD hr.units) (pe_call GT (hr.mono (by decide)) (by rfl) gT FT.kp bT .nil pass0 (pa_cons (pv 3) (pa_cons (pe_tup (pa_cons (pe_slice sl_tupI (pe_ix ix_tup (pv 4) pe_int (fun _ _ => rfl)) (po_some pe_int) po_none) (pa_cons (pe_ix ix_tup (pv 4) pe_int (fun _ _ => rfl)) pa_nil))) pa_nil))) (pe_tup (pa_cons pe_str (pa_cons pe_int pa_nil))) (nomark _))))) (pss_one (ps_ret pe_bl)) pss_nil)
      (pss_cons (ps_set (i := 6) scLaw.nd rfl (.inl rfl) (pe_ix ix_list (pe_lst (pa_cons (pe_tup (pa_cons pe_str (pa_cons pe_int pa_nil))) (pa_cons (pe_tup (pa_cons pe_str (pa_cons pe_int pa_nil))) pa_nil))) (pe_callTy call_int1 (by rfl) X.int (by decide +kernel) (pa_cons (pe_call GR (hr.mono (by decide)) (by rfl) gR FR.kp bR .nil pass0 (pa_cons (pv 2) (pa_cons (pe_ix ix_tup (pv 4) pe_int (fun _ _ => rfl)) pa_nil))) pa_nil)) (fun _ _ => rfl)))
      (pss_cons (ps_if (PW.pt (pw_or (pt_cmpR (op_neD hr.units) (pe_call GT (hr.mono (by decide)) (by rfl) gT FT.kp bT .nil pass0 (pa_cons (pv 3) (pa_cons (pe_tup (pa_cons (pe_ix ix_tup (pv 4) pe_int (fun _ _ => rfl)) (pa_cons pe_bl pa_nil))) pa_nil))) (pv 6) (nomark _)) (pw_or1 (pt_cmpR (op_neD hr.units) (pe_call GT (hr.mono (by decide)) (by rfl) gT FT.kp bT .nil pass0 (pa_cons (pv 3) (pa_cons (pe_tup (pa_cons (pe_ix ix_tup (pv 4) pe_int (fun _ _ => rfl)) (pa_cons pe_bl pa_nil))) pa_nil))) (pe_tup (pa_cons pe_str (pa_cons pe_int pa_nil))) (nomark _))))) (pss_one (ps_ret pe_bl)) pss_nil)
      (pss_one (ps_ret (pe_cmpR (op_eqD hr.units) (pe_call GT (hr.mono (by decide)) (by rfl) gT FT.kp bT .nil pass0 (pa_cons (pv 3) (pa_cons (pv 4) pa_nil))) (pe_tup (pa_cons pe_str (pa_cons pe_int pa_nil))) (nomark _)))))))))))))), ?_⟩
    refine ⟨_, rfl, a, cs, 260, rfl, ha, h63, by decide, fun H1 nA ns s1 nn1 hA lns hns => ?_⟩
    refine ⟨_, rfl, nA, ns, true, rfl, sq hA, hns, by omega, fun H2 p b s2 np hS ok few => ?_⟩
    refine ⟨_, rfl, p, b, rfl, hS, few, ok, fun H3 pb s3 npb hB => ?_⟩
    refine ⟨_, rfl, _, rfl, p, nA, 214, b, ns, rfl, hS.mono s3, few, ok, sq (s3 _ _ (s2 _ _ hA)), hns, by omega, fun H4 t tt on u s4 nt ht htt lon => ?_⟩
    have m14 : b.movers.length ≤ 14 := by
      unfold Bd.movers
      rw [List.length_append, List.length_map]
      have := ok.sw
      have := ok.rl
      omega
    have s34 := s3.trans s4
    have hA4 := s34 _ _ (s2 _ _ hA)
    have hS4 := hS.mono s34
    have hB4 := hB.mono s4
    clear hS hB hA
    -- the first state
    refine ⟨_, rfl, pb, b, rfl, hB4, ok, few, fun H5 f1 ft s5 nf hf hft => ?_⟩
    have lo : (offs b).length = b.movers.length := List.length_replicate
    refine ⟨_, rfl, _, rfl, p, b, rfl, hS4.mono s5, few, ok, fun H6 x1 xt s6 nx hx hxt => ?_⟩
    have s56 := s5.trans s6
    have hf6 : StAny K H6 f1 (offs b) (shortF b (offs b)) := ⟨ft, st (s6 _ _ hf), Same.sqt s6 hft⟩
    refine ⟨f1, x1, offs b, shortF b (offs b), rfl, hf6, ⟨xt, st hx, hxt⟩, by omega, fun H7 s7 => ⟨_, rfl, ?_⟩⟩
    refine iteF ?_
    have s57 := s56.trans s7
    refine ⟨_, rfl, _, rfl, pb, f1, b, offs b, shortF b (offs b), rfl, hB4.mono s57, ok, few, hf6.mono s7, by omega, fun H8 w1 s8 nw1 hw1 => ⟨by show 2 ≤ sizeLine; decide, fun y1 ny1 => ?_⟩⟩
    have sy1 := same_upd (o := .tup [.str "taken", .int 1]) ny1
    rw [show goodB b (offs b) (shortF b (offs b)) = true from good_short b lo false] at hw1
    refine ne_word (g := true) (g' := true) (st (sy1 _ _ hw1)) (st upd_same) ⟨_, rfl, ?_⟩
    refine iteF ?_
    have e9 := s57.trans (s8.trans sy1)
    generalize (upd H8 y1 (.tup [.str "taken", .int 1])) = H9 at e9 ⊢
    clear hf6 hf hft hx hxt hw1 sy1
    -- one mover more
    obtain ⟨_, _, g230⟩ := at_get hns (show 230 < ns.length by omega)
    have hB9 := hB4.mono e9
    have hS9 := hS4.mono e9
    have hA9 := e9 _ _ hA4
    have ht9 := e9 _ _ ht
    have htt9 := Same.sqt e9 htt
    refine ⟨_, rfl, _, rfl, t, _, 0, _, rfl, rfl, st ht9, rfl, _, rfl, nA, _, 230, _, rfl, rfl, sq hA9, g230 _ rfl, .inl ⟨_, rfl, ?_⟩⟩
    refine modE (by decide) fun r hr1 hr2 => ?_
    refine ⟨rfl, by show 1 ≤ sizeLine; decide, fun t1 nt1 => ?_⟩
    have q1 := same_upd (o := .tup [.bl (decide (V.int r = V.int 1))]) nt1
    refine cat_any (Same.sqt q1 htt9) (st upd_same) (by rw [List.length_map]; show on.length + 1 ≤ 1000000; omega) fun t2 Ha q2 ht2 => ?_
    have ea := q1.trans q2
    refine ⟨_, rfl, t, _, 1, _, rfl, rfl, st (ea _ _ ht9), rfl, by show 2 ≤ sizeLine; decide, fun w1 nw1 => ?_⟩
    have q3 := same_upd (o := .tup [.ref t2, .bl (u || shortF b on)]) nw1
    have eb := ea.trans q3
    refine ⟨pb, w1, b, on ++ [decide (V.int r = V.int 1)], u || shortF b on, rfl, hB9.mono eb, ok, few, ⟨t2, st upd_same, by rw [List.map_append]; exact Same.sqt q3 ht2⟩, by rw [List.length_append]; show on.length + 1 ≤ 1000; omega, fun Hc o1 s8 no1 ho1 => ⟨by show 2 ≤ sizeLine; decide, fun y1 ny1 => ?_⟩⟩
    have sy1 := same_upd (o := .tup [.str "refused", .int 1]) ny1
    rw [good_len b (by rw [List.length_append]; show on.length + 1 ≠ _; omega) (u || shortF b on)] at ho1
    refine ne_word (g := false) (g' := false) (st (sy1 _ _ ho1)) (st upd_same) ⟨_, rfl, ?_⟩
    refine iteF ?_
    have ec := e9.trans (eb.trans (s8.trans sy1))
    generalize (upd Hc y1 (.tup [.str "refused", .int 1])) = Hd at ec ⊢
    clear ho1 sy1 s8 eb q3 ea q2 ht2 hB9 hS9 hA9 ht9 htt9 e9
    -- one less
    refine seq_if (fun G => Same H4 G) (fun Q hQ => ?_) (fun G eg => ?_)
    · refine ⟨_, rfl, t, _, 0, _, rfl, rfl, st (ec _ _ ht), rfl, tt, _, rfl, .inr (Same.sqt ec htt), _, _, rfl, rfl, _, rfl, ?_⟩
      by_cases h0 : (0 : Int) < ((on.map V.bl).length : Nat)
      · rw [decide_eq_true h0]
        refine iteT ?_
        refine ⟨_, rfl, _, rfl, t, _, 0, _, rfl, rfl, st (ec _ _ ht), rfl, _, rfl, ?_⟩
        refine cutT (Same.sqt ec htt) fun t2 Ha q2 ht2 => ?_
        have ea := ec.trans q2
        refine ⟨_, rfl, t, _, 1, _, rfl, rfl, st (ea _ _ ht), rfl, by show 2 ≤ sizeLine; decide, fun w1 nw1 => ?_⟩
        have q3 := same_upd (o := .tup [.ref t2, .bl (u || shortF b on)]) nw1
        have eb := ea.trans q3
        rw [show (1 : Int) = ((1 : Nat) : Int) from rfl, cut_drop_list, ← List.map_drop] at ht2
        rw [List.length_map] at h0
        refine ⟨pb, w1, b, on.drop 1, u || shortF b on, rfl, hB4.mono eb, ok, few, ⟨t2, st upd_same, Same.sqt q3 ht2⟩, by rw [List.length_drop]; omega, fun Hc o1 s8 no1 ho1 => ⟨by show 2 ≤ sizeLine; decide, fun y1 ny1 => ?_⟩⟩
        have sy1 := same_upd (o := .tup [.str "refused", .int 1]) ny1
        rw [good_len b (by rw [List.length_drop]; omega) (u || shortF b on)] at ho1
        refine ne_word (g := false) (g' := false) (st (sy1 _ _ ho1)) (st upd_same) ⟨_, rfl, ?_⟩
        exact hQ _ (eb.trans (s8.trans sy1))
      · rw [decide_eq_false h0]
        refine iteF ?_
        exact hQ _ ec
    -- expected
    clear ec
    refine ⟨by show 2 ≤ sizeLine; decide, fun o1 n1 => ⟨by show 2 ≤ sizeLine; decide, fun o2 n2 => ⟨by show 2 ≤ sizeLine; decide, fun ol nol => ?_⟩⟩⟩
    have k1 := same_upd (o := .tup [.str "taken", .int 1]) n1
    have a1 := upd_same (H := G) (a := o1) (o := .tup [.str "taken", .int 1])
    have k2 := same_upd (o := .tup [.str "refused", .int 1]) n2
    have a2 := upd_same (H := upd G o1 (.tup [.str "taken", .int 1])) (a := o2) (o := .tup [.str "refused", .int 1])
    have k3 := same_upd (o := .lst [.ref o1, .ref o2]) nol
    have a3 := upd_same (H := upd (upd G o1 (.tup [.str "taken", .int 1])) o2 (.tup [.str "refused", .int 1])) (a := ol) (o := .lst [.ref o1, .ref o2])
    have b1 := k3 _ _ (k2 _ _ a1)
    have b2 := k3 _ _ a2
    have eh := eg.trans (k1.trans (k2.trans k3))
    generalize (upd (upd (upd G o1 (.tup [.str "taken", .int 1])) o2 (.tup [.str "refused", .int 1])) ol (.lst [.ref o1, .ref o2])) = Gh at a3 b1 b2 eh ⊢
    clear k1 k2 k3 a1 a2 n1 n2 nol eg
    refine ⟨_, rfl, _, rfl, t, _, 0, _, rfl, rfl, st (eh _ _ ht), rfl, p, tt, b, on, rfl, hS4.mono eh, few, ok, .inr (Same.sqt eh htt), lon, fun G1 g1 => .inr ⟨shortF b on, rfl, ?_⟩⟩
    refine ix_pick (g1 _ _ a3) (st (g1 _ _ b1)) (st (g1 _ _ b2)) fun oe hoe => ?_
    have ei := eh.trans g1
    have c0 : (!decide ((!shortF b on) = (!shortF b on))) = false := by cases shortF b on <;> rfl
    refine ⟨_, rfl, _, rfl, t, _, 0, _, rfl, rfl, st (ei _ _ ht), rfl, by show 2 ≤ sizeLine; decide, fun w2 nw2 => ?_⟩
    have q3 := same_upd (o := .tup [.ref tt, .bl false]) nw2
    have ej := ei.trans q3
    refine ⟨pb, w2, b, on, false, rfl, hB4.mono ej, ok, few, ⟨tt, st upd_same, Same.sqt ej htt⟩, by omega, fun G2 w3 g2 nw3 hw3 => ⟨_, rfl, ?_⟩⟩
    rw [good_false b lon] at hw3
    refine ne_word (g := !shortF b on) (g' := !shortF b on) (st hw3) (Same.sqt (q3.trans g2) hoe) ⟨_, rfl, ?_⟩
    rw [c0]
    refine iteF ?_
    have ek := ej.trans g2
    refine ⟨_, rfl, _, rfl, t, _, 0, _, rfl, rfl, st (ek _ _ ht), rfl, by show 2 ≤ sizeLine; decide, fun w4 nw4 => ?_⟩
    have q4 := same_upd (o := .tup [.ref tt, .bl true]) nw4
    have el := ek.trans q4
    refine ⟨pb, w4, b, on, true, rfl, hB4.mono el, ok, few, ⟨tt, st upd_same, Same.sqt el htt⟩, by omega, fun G3 w5 g3 nw5 hw5 => ⟨by show 2 ≤ sizeLine; decide, fun y2 ny2 => ?_⟩⟩
    have sy2 := same_upd (o := .tup [.str "taken", .int 1]) ny2
    rw [good_true b lon] at hw5
    refine ne_word (g := true) (g' := true) (st (sy2 _ _ hw5)) (st upd_same) ⟨_, rfl, ?_⟩
    refine iteF ?_
    have em := el.trans (g3.trans sy2)
    refine ⟨_, rfl, _, rfl, pb, t, b, on, u || shortF b on, rfl, hB4.mono em, ok, few, ⟨tt, st (em _ _ ht), Same.sqt em htt⟩, by omega, fun G4 w6 g4 nw6 hw6 => ⟨by show 2 ≤ sizeLine; decide, fun y3 ny3 => ?_⟩⟩
    have sy3 := same_upd (o := .tup [.str "taken", .int 1]) ny3
    rw [good_short b lon u] at hw6
    refine eq_word (g := true) (g' := true) (st (sy3 _ _ hw6)) (st upd_same) ?_
    exact q _
/-! ### Machine's __init__ with its default, called with the board alone -/
theorem mach_fun {K : PySem.W.Frag} {f TD cd : Addr} {oc kV doc pm ct tc : Value} {od an tdd : Option Addr} {osl tds : Array (Option Value)} {tk : Tok} {tn : Nat}
    (lk : K.lookup f = some ⟨oc, od, .func (PySem.W.fnOf "__init__" "Machine.__init__" (defArgs sMachineInit) (defBody sMachineInit) (defScope sMachineInit) (.ref TD) kV doc pm an (.ref cd) ct), osl⟩) (hcd : PySem.W.codeIn K (.ref cd) "Machine.__init__" = true) (kp : PySem.W.keepIn K (.ref f) = true)
    (lT : K.lookup TD = some ⟨tc, tdd, .seq #[.int 0 tk] tn, tds⟩) :
    FunD K "__init__" "Machine.__init__" (defArgs sMachineInit) (defBody sMachineInit) (defScope sMachineInit) [.int 0] [] f (PySem.W.fnOf "__init__" "Machine.__init__" (defArgs sMachineInit) (defBody sMachineInit) (defScope sMachineInit) (.ref TD) kV doc pm an (.ref cd) ct) :=
  ⟨⟨oc, od, .ref TD, kV, doc, pm, an, .ref cd, ct, osl, rfl, lk, hcd, .inr ⟨by simp, TD, _, [.int 0 tk], tn, rfl, lT, rfl, .cons ⟨tk, rfl⟩ .nil⟩, .inl rfl⟩, kp⟩
theorem mach_binds {K : PySem.W.Frag} {f : Addr} {fd : FuncData} (F : FunD K "__init__" "Machine.__init__" (defArgs sMachineInit) (defBody sMachineInit) (defScope sMachineInit) [.int 0] [] f fd) : ∃ ds, Vals [.int 0] ds ∧ Binds K fd ["self", "board", "hurry"] ds := by
  obtain ⟨ds, h1, h2⟩ := FunD.binds1 (ps := ["self", "board", "hurry"]) F 2 0 (by simp) (by decide) (fun T kV doc pm an cdv ct us its l1 l2 => match us, l1, its, l2 with
    | [_, _], _, [_], _ => ⟨_, rfl, rfl⟩)
  exact ⟨ds, h1, h2⟩
theorem exm_self {K : PySem.W.Frag} {S : Addr} (h1 : PySem.W.subIn K (.ref S) (.type "BaseException") = some true) (h2 : PySem.W.isClsIn K S = true) (h3 : PySem.W.typeIn K (.ref S) = some (.type "type")) (h4 : PySem.W.subIn K (.ref S) (.ref S) = some true) :
    PySem.W.exmOne K (.ref S) (.ref S) = some true := by
  have e1 : (PySem.W.subIn K (.ref S) (.type "BaseException") == some true) = true := by rw [h1] <;> rfl
  have e2 : ((PySem.W.clsIn K S).isSome && PySem.W.typeIn K (.ref S) == some (.type "type")) = true := by
    have h2' : (PySem.W.clsIn K S).isSome = true := h2
    rw [h2', h3] <;> rfl
  show (if (PySem.W.subIn K (.ref S) (.type "BaseException") == some true) = true then (if ((PySem.W.clsIn K S).isSome && PySem.W.typeIn K (.ref S) == some (.type "type")) = true then PySem.W.subIn K (.ref S) (.ref S) else none) else none) = some true
  rw [if_pos e1, if_pos e2]
  exact h4
theorem kit_cls {K : PySem.W.Frag} {D S : Addr} {r : Bool} (h2 : PySem.W.isClsIn K S = true) (h3 : PySem.W.typeIn K (.ref S) = some (.type "type")) (h4 : PySem.W.subIn K (.ref D) (.ref S) = some r) (hd : PySem.W.subIn K (.ref D) (.ref D) = some true) :
    PySem.W.kitOne K (.ref D) (.ref S) = some r := by
  have e2 : ((PySem.W.clsIn K S).isSome && PySem.W.typeIn K (.ref S) == some (.type "type")) = true := by
    have h2' : (PySem.W.clsIn K S).isSome = true := h2
    rw [h2', h3] <;> rfl
  unfold PySem.W.kitOne
  by_cases e : ((Value.ref D : Value) == .ref S) = true
  · rw [if_pos e]
    have e3 : (Value.ref D : Value) = .ref S := eq_of_beq e
    rw [← e3, hd] at h4
    exact h4
  · rw [if_neg e]
    show (if ((PySem.W.clsIn K S).isSome && PySem.W.typeIn K (.ref S) == some (.type "type")) = true then PySem.W.subIn K (.ref D) (.ref S) else none) = some r
    rw [if_pos e2]
    exact h4
theorem kit_ve {K : PySem.W.Frag} {D : Addr} (h : PySem.W.subIn K (.ref D) (.type "ValueError") = some true) : PySem.W.kitOne K (.ref D) (.type "ValueError") = some true := by
  unfold PySem.W.kitOne
  rw [if_neg (show ¬ ((Value.ref D == Value.type "ValueError") = true) from fun e => by have := eq_of_beq e; cases this)]
  show (if PySem.W.kitMeta "ValueError" = true then PySem.W.subIn K (.ref D) (.type "ValueError") else none) = some true
  rw [if_pos (by decide +kernel)]
  exact h
end
theorem all_mk {l : PySem.W.OpenLaw} {w : World} {K : PySem.W.Frag} {h : Heap} {mg : Str → Option Value} {fa : Addr} (X : K.In h) (G : h.Ns mainGlobals mg) (hfa : mg "law" = some (.ref fa))
    {C : Addr}
    {tc1 : Tok}
    {tc2 : Tok}
    {tc3 : Tok}
    {tc4 : Tok}
    {tc5 : Tok}
    {tg1 : Tok}
    {tg2 : Tok}
    {tg3 : Tok}
    {tg4 : Tok}
    {aW : Addr} {xW yW : Tok} {ddW : Option Addr} {nW : Nat} {ssW : Array (Option Value)}
    {aY : Addr} {xY yY : Tok} {ddY : Option Addr} {nY : Nat} {ssY : Array (Option Value)}
    {fCsp : Addr} {odCsp anCsp : Option Addr} {slCsp : Array (Option Value)} {ocCsp dcCsp pmCsp cdCsp ctCsp : Value} {kVCsp : Value}
    {fCnm : Addr} {odCnm anCnm : Option Addr} {slCnm : Array (Option Value)} {ocCnm dcCnm pmCnm cdCnm ctCnm : Value} {kVCnm : Value}
    {fCct : Addr} {odCct anCct : Option Addr} {slCct : Array (Option Value)} {ocCct dcCct pmCct cdCct ctCct : Value} {kVCct : Value}
    {fIni : Addr} {odIni anIni : Option Addr} {slIni : Array (Option Value)} {ocIni dcIni pmIni cdIni ctIni : Value} {kVIni : Value}
    {pMov : Addr} {rsMov : List Value}
    {fMov : Addr} {odMov anMov : Option Addr} {slMov : Array (Option Value)} {ocMov dcMov pmMov cdMov ctMov : Value} {kVMov : Value}
    {fIsn : Addr} {odIsn anIsn : Option Addr} {slIsn : Array (Option Value)} {ocIsn dcIsn pmIsn cdIsn ctIsn : Value} {kVIsn : Value}
    {fArn : Addr} {odArn anArn : Option Addr} {slArn : Array (Option Value)} {ocArn dcArn pmArn cdArn ctArn : Value} {kVArn : Value}
    {fSpn : Addr} {odSpn anSpn : Option Addr} {slSpn : Array (Option Value)} {ocSpn dcSpn pmSpn cdSpn ctSpn : Value} {kVSpn : Value}
    {fCnt : Addr} {odCnt anCnt : Option Addr} {slCnt : Array (Option Value)} {ocCnt dcCnt pmCnt cdCnt ctCnt : Value} {kVCnt : Value}
    {fCls : Addr} {odCls anCls : Option Addr} {slCls : Array (Option Value)} {ocCls dcCls pmCls cdCls ctCls : Value} {kVCls : Value}
    {fSho : Addr} {odSho anSho : Option Addr} {slSho : Array (Option Value)} {ocSho dcSho pmSho cdSho ctSho : Value} {kVSho : Value}
    {fTur : Addr} {odTur anTur : Option Addr} {slTur : Array (Option Value)} {ocTur dcTur pmTur cdTur ctTur : Value} {kVTur : Value}
    {fSpr : Addr} {odSpr anSpr : Option Addr} {slSpr : Array (Option Value)} {ocSpr dcSpr pmSpr cdSpr ctSpr : Value} {kVSpr : Value}
    {fLiv : Addr} {odLiv anLiv : Option Addr} {slLiv : Array (Option Value)} {ocLiv dcLiv pmLiv cdLiv ctLiv : Value} {kVLiv : Value}
    {fChk : Addr} {odChk anChk : Option Addr} {slChk : Array (Option Value)} {ocChk dcChk pmChk cdChk ctChk : Value} {kVChk : Value}
    {fFst : Addr} {odFst anFst : Option Addr} {slFst : Array (Option Value)} {ocFst dcFst pmFst cdFst ctFst : Value} {kVFst : Value}
    {fRow : Addr} {odRow anRow : Option Addr} {slRow : Array (Option Value)} {ocRow dcRow pmRow cdRow ctRow : Value} {kVRow : Value}
    {fNum : Addr} {odNum anNum : Option Addr} {slNum : Array (Option Value)} {ocNum dcNum pmNum cdNum ctNum : Value} {kVNum : Value}
    {fNms : Addr} {odNms anNms : Option Addr} {slNms : Array (Option Value)} {ocNms dcNms pmNms cdNms ctNms : Value} {kVNms : Value}
    {fLoa : Addr} {odLoa anLoa : Option Addr} {slLoa : Array (Option Value)} {ocLoa dcLoa pmLoa cdLoa ctLoa : Value} {kVLoa : Value}
    {fLco : Addr} {odLco anLco : Option Addr} {slLco : Array (Option Value)} {ocLco dcLco pmLco cdLco ctLco : Value} {kVLco : Value}
    {fBor : Addr} {odBor anBor : Option Addr} {slBor : Array (Option Value)} {ocBor dcBor pmBor cdBor ctBor : Value} {kVBor : Value}
    {fMad : Addr} {odMad anMad : Option Addr} {slMad : Array (Option Value)} {ocMad dcMad pmMad cdMad ctMad : Value} {kVMad : Value}
    {fLmv : Addr} {odLmv anLmv : Option Addr} {slLmv : Array (Option Value)} {ocLmv dcLmv pmLmv cdLmv ctLmv : Value} {kVLmv : Value}
    {fSta : Addr} {odSta anSta : Option Addr} {slSta : Array (Option Value)} {ocSta dcSta pmSta cdSta ctSta : Value} {kVSta : Value}
    {fClo : Addr} {odClo anClo : Option Addr} {slClo : Array (Option Value)} {ocClo dcClo pmClo cdClo ctClo : Value} {kVClo : Value}
    {fPai : Addr} {odPai anPai : Option Addr} {slPai : Array (Option Value)} {ocPai dcPai pmPai cdPai ctPai : Value} {kVPai : Value}
    {fRea : Addr} {odRea anRea : Option Addr} {slRea : Array (Option Value)} {ocRea dcRea pmRea cdRea ctRea : Value} {kVRea : Value}
    {fRes : Addr} {odRes anRes : Option Addr} {slRes : Array (Option Value)} {ocRes dcRes pmRes cdRes ctRes : Value} {kVRes : Value}
    {fLfi : Addr} {odLfi anLfi : Option Addr} {slLfi : Array (Option Value)} {ocLfi dcLfi pmLfi cdLfi ctLfi : Value} {kVLfi : Value}
    {fLss : Addr} {odLss anLss : Option Addr} {slLss : Array (Option Value)} {ocLss dcLss pmLss cdLss ctLss : Value} {kVLss : Value}
    {fLtd : Addr} {odLtd anLtd : Option Addr} {slLtd : Array (Option Value)} {ocLtd dcLtd pmLtd cdLtd ctLtd : Value} {kVLtd : Value}
    {fLaw : Addr} {odLaw anLaw : Option Addr} {slLaw : Array (Option Value)} {ocLaw dcLaw pmLaw cdLaw ctLaw : Value} {kVLaw : Value}
    {N : Addr}
    {tN1 : Tok}
    {tN2 : Tok}
    {fNIn : Addr} {odNIn anNIn : Option Addr} {slNIn : Array (Option Value)} {ocNIn dcNIn pmNIn cdNIn ctNIn : Value} {kVNIn : Value}
    {fNFd : Addr} {odNFd anNFd : Option Addr} {slNFd : Array (Option Value)} {ocNFd dcNFd pmNFd cdNFd ctNFd : Value} {kVNFd : Value}
    {fNFl : Addr} {odNFl anNFl : Option Addr} {slNFl : Array (Option Value)} {ocNFl dcNFl pmNFl cdNFl ctNFl : Value} {kVNFl : Value}
    {fNAr : Addr} {odNAr anNAr : Option Addr} {slNAr : Array (Option Value)} {ocNAr dcNAr pmNAr cdNAr ctNAr : Value} {kVNAr : Value}
    {W : Addr}
    {fWIn : Addr} {odWIn anWIn : Option Addr} {slWIn : Array (Option Value)} {ocWIn dcWIn pmWIn cdWIn ctWIn : Value} {kVWIn : Value}
    {Mc : Addr}
    {fMIn TD cMd : Addr} {ocM kVM dcM pmM ctM tcM : Value} {odM anM tddM : Option Addr} {slM tdsM : Array (Option Value)} {tkM : Tok} {tnM : Nat}
    {fMFa : Addr} {odMFa anMFa : Option Addr} {slMFa : Array (Option Value)} {ocMFa dcMFa pmMFa cdMFa ctMFa : Value} {kVMFa : Value}
    {fMSt : Addr} {odMSt anMSt : Option Addr} {slMSt : Array (Option Value)} {ocMSt dcMSt pmMSt cdMSt ctMSt : Value} {kVMSt : Value}
    {DF IB IP LE : Addr}
    (aC : PySem.W.nsIn K mainGlobals "Board" = some (some (.ref C)))
    (pg : PySem.W.plainGet K C Str.empty = true)
    (hd : PySem.W.hasDictIn K C = true)
    (po : PySem.W.plainOver K C = true)
    (sa : PySem.W.findIn K (.ref C) "__setattr__" = some (some (.builtin "object.__setattr__")))
    (mk : PySem.W.makesIn K C = true)
    (kc : PySem.W.keepIn K (.ref C) = true)
    (rd : PySem.W.readsIn K C (.type "type") = true)
    (ga : PySem.W.specialIn K (.ref C) "__getattribute__" = some (some (.builtin "type.__getattribute__")))
    (nN : PySem.W.findIn K (.ref C) "nodes" = some none)
    (nS : PySem.W.findIn K (.ref C) "switches" = some none)
    (nR : PySem.W.findIn K (.ref C) "relays" = some none)
    (nL : PySem.W.findIn K (.ref C) "lamps" = some none)
    (nC : PySem.W.findIn K (.ref C) "contacts" = some none)
    (nM : PySem.W.findIn K (.ref C) "_movers" = some none)
    (m1 : PySem.W.findCls K (.ref C) (.type "type") "MOST_NODES" = some (.val (.int 16 tc1)))
    (m2 : PySem.W.findCls K (.ref C) (.type "type") "MOST_SWITCHES" = some (.val (.int 6 tc2)))
    (m3 : PySem.W.findCls K (.ref C) (.type "type") "MOST_RELAYS" = some (.val (.int 8 tc3)))
    (m4 : PySem.W.findCls K (.ref C) (.type "type") "MOST_LAMPS" = some (.val (.int 8 tc4)))
    (m5 : PySem.W.findCls K (.ref C) (.type "type") "MOST_CONTACTS" = some (.val (.int 40 tc5)))
    (q1 : PySem.W.nsIn K mainGlobals "LONGEST_NAME" = some (some (.int 12 tg1)))
    (q2 : PySem.W.nsIn K mainGlobals "LEAST_NODES" = some (some (.int 2 tg2)))
    (q3 : PySem.W.nsIn K mainGlobals "LEAST_LAMPS" = some (some (.int 1 tg3)))
    (q4 : PySem.W.nsIn K mainGlobals "CHARACTERS" = some (some (.str "abcdefghijklmnopqrstuvwxyz0123456789" tg4)))
    (bW : PySem.W.nsIn K mainGlobals "WHENS" = some (some (.ref aW)))
    (eW : K.lookup aW = some ⟨.type "tuple", ddW, .seq #[.str "make" xW, .str "break" yW] nW, ssW⟩)
    (bY : PySem.W.nsIn K mainGlobals "WAYS" = some (some (.ref aY)))
    (eY : K.lookup aY = some ⟨.type "tuple", ddY, .seq #[.str "both" xY, .str "forward" yY] nY, ssY⟩)
    (aCsp : PySem.W.findIn K (.ref C) "_check_spans" = some (some (.ref fCsp)))
    (iCsp : PySem.W.isFn K (.ref fCsp) = true)
    (lCsp : K.lookup fCsp = some ⟨ocCsp, odCsp, .func (PySem.W.fnOf "_check_spans" "Board._check_spans" (defArgs sBoardCheckSpans) (defBody sBoardCheckSpans) (defScope sBoardCheckSpans) .none kVCsp dcCsp pmCsp anCsp cdCsp ctCsp), slCsp⟩)
    (cCsp : PySem.W.codeIn K cdCsp "Board._check_spans" = true)
    (kCsp : PySem.W.keepIn K (.ref fCsp) = true)
    (aCnm : PySem.W.findIn K (.ref C) "_check_names" = some (some (.ref fCnm)))
    (iCnm : PySem.W.isFn K (.ref fCnm) = true)
    (lCnm : K.lookup fCnm = some ⟨ocCnm, odCnm, .func (PySem.W.fnOf "_check_names" "Board._check_names" (defArgs sBoardCheckNames) (defBody sBoardCheckNames) (defScope sBoardCheckNames) .none kVCnm dcCnm pmCnm anCnm cdCnm ctCnm), slCnm⟩)
    (cCnm : PySem.W.codeIn K cdCnm "Board._check_names" = true)
    (kCnm : PySem.W.keepIn K (.ref fCnm) = true)
    (aCct : PySem.W.findIn K (.ref C) "_check_contacts" = some (some (.ref fCct)))
    (iCct : PySem.W.isFn K (.ref fCct) = true)
    (lCct : K.lookup fCct = some ⟨ocCct, odCct, .func (PySem.W.fnOf "_check_contacts" "Board._check_contacts" (defArgs sBoardCheckContacts) (defBody sBoardCheckContacts) (defScope sBoardCheckContacts) .none kVCct dcCct pmCct anCct cdCct ctCct), slCct⟩)
    (cCct : PySem.W.codeIn K cdCct "Board._check_contacts" = true)
    (kCct : PySem.W.keepIn K (.ref fCct) = true)
    (aIni : PySem.W.findIn K (.ref C) "__init__" = some (some (.ref fIni)))
    (iIni : PySem.W.isFn K (.ref fIni) = true)
    (lIni : K.lookup fIni = some ⟨ocIni, odIni, .func (PySem.W.fnOf "__init__" "Board.__init__" (defArgs sBoardInit) (defBody sBoardInit) (defScope sBoardInit) .none kVIni dcIni pmIni anIni cdIni ctIni), slIni⟩)
    (cIni : PySem.W.codeIn K cdIni "Board.__init__" = true)
    (kIni : PySem.W.keepIn K (.ref fIni) = true)
    (aMov : PySem.W.findIn K (.ref C) "movers" = some (some (.ref pMov)))
    (uMov : PySem.W.specialIn K (.ref pMov) "__get__" = some (some (.builtin "property.__get__")))
    (vMov : PySem.W.takesIn K (.ref pMov) = some true)
    (rMov : PySem.W.recIn K pMov "property" = some (.ref fMov :: rsMov))
    (lMov : K.lookup fMov = some ⟨ocMov, odMov, .func (PySem.W.fnOf "movers" "Board.movers" (defArgs sBoardMovers) (defBody sBoardMovers) (defScope sBoardMovers) .none kVMov dcMov pmMov anMov cdMov ctMov), slMov⟩)
    (cMov : PySem.W.codeIn K cdMov "Board.movers" = true)
    (kMov : PySem.W.keepIn K (.ref fMov) = true)
    (aIsn : PySem.W.nsIn K mainGlobals "is_good_name" = some (some (.ref fIsn)))
    (lIsn : K.lookup fIsn = some ⟨ocIsn, odIsn, .func (PySem.W.fnOf "is_good_name" "is_good_name" (defArgs sIsGoodName) (defBody sIsGoodName) (defScope sIsGoodName) .none kVIsn dcIsn pmIsn anIsn cdIsn ctIsn), slIsn⟩)
    (cIsn : PySem.W.codeIn K cdIsn "is_good_name" = true)
    (kIsn : PySem.W.keepIn K (.ref fIsn) = true)
    (aArn : PySem.W.nsIn K mainGlobals "are_names" = some (some (.ref fArn)))
    (lArn : K.lookup fArn = some ⟨ocArn, odArn, .func (PySem.W.fnOf "are_names" "are_names" (defArgs sAreNames) (defBody sAreNames) (defScope sAreNames) .none kVArn dcArn pmArn anArn cdArn ctArn), slArn⟩)
    (cArn : PySem.W.codeIn K cdArn "are_names" = true)
    (kArn : PySem.W.keepIn K (.ref fArn) = true)
    (aSpn : PySem.W.nsIn K mainGlobals "is_span" = some (some (.ref fSpn)))
    (lSpn : K.lookup fSpn = some ⟨ocSpn, odSpn, .func (PySem.W.fnOf "is_span" "is_span" (defArgs sIsSpan) (defBody sIsSpan) (defScope sIsSpan) .none kVSpn dcSpn pmSpn anSpn cdSpn ctSpn), slSpn⟩)
    (cSpn : PySem.W.codeIn K cdSpn "is_span" = true)
    (kSpn : PySem.W.keepIn K (.ref fSpn) = true)
    (aCnt : PySem.W.nsIn K mainGlobals "is_contact" = some (some (.ref fCnt)))
    (lCnt : K.lookup fCnt = some ⟨ocCnt, odCnt, .func (PySem.W.fnOf "is_contact" "is_contact" (defArgs sIsContact) (defBody sIsContact) (defScope sIsContact) .none kVCnt dcCnt pmCnt anCnt cdCnt ctCnt), slCnt⟩)
    (cCnt : PySem.W.codeIn K cdCnt "is_contact" = true)
    (kCnt : PySem.W.keepIn K (.ref fCnt) = true)
    (aCls : PySem.W.nsIn K mainGlobals "closes" = some (some (.ref fCls)))
    (lCls : K.lookup fCls = some ⟨ocCls, odCls, .func (PySem.W.fnOf "closes" "closes" (defArgs sCloses) (defBody sCloses) (defScope sCloses) .none kVCls dcCls pmCls anCls cdCls ctCls), slCls⟩)
    (cCls : PySem.W.codeIn K cdCls "closes" = true)
    (kCls : PySem.W.keepIn K (.ref fCls) = true)
    (aSho : PySem.W.nsIn K mainGlobals "is_short" = some (some (.ref fSho)))
    (lSho : K.lookup fSho = some ⟨ocSho, odSho, .func (PySem.W.fnOf "is_short" "is_short" (defArgs sIsShort) (defBody sIsShort) (defScope sIsShort) .none kVSho dcSho pmSho anSho cdSho ctSho), slSho⟩)
    (cSho : PySem.W.codeIn K cdSho "is_short" = true)
    (kSho : PySem.W.keepIn K (.ref fSho) = true)
    (aTur : PySem.W.nsIn K mainGlobals "_turned" = some (some (.ref fTur)))
    (lTur : K.lookup fTur = some ⟨ocTur, odTur, .func (PySem.W.fnOf "_turned" "_turned" (defArgs sTurned) (defBody sTurned) (defScope sTurned) .none kVTur dcTur pmTur anTur cdTur ctTur), slTur⟩)
    (cTur : PySem.W.codeIn K cdTur "_turned" = true)
    (kTur : PySem.W.keepIn K (.ref fTur) = true)
    (aSpr : PySem.W.nsIn K mainGlobals "_spread" = some (some (.ref fSpr)))
    (lSpr : K.lookup fSpr = some ⟨ocSpr, odSpr, .func (PySem.W.fnOf "_spread" "_spread" (defArgs sSpread) (defBody sSpread) (defScope sSpread) .none kVSpr dcSpr pmSpr anSpr cdSpr ctSpr), slSpr⟩)
    (cSpr : PySem.W.codeIn K cdSpr "_spread" = true)
    (kSpr : PySem.W.keepIn K (.ref fSpr) = true)
    (aLiv : PySem.W.nsIn K mainGlobals "_is_live" = some (some (.ref fLiv)))
    (lLiv : K.lookup fLiv = some ⟨ocLiv, odLiv, .func (PySem.W.fnOf "_is_live" "_is_live" (defArgs sIsLive) (defBody sIsLive) (defScope sIsLive) .none kVLiv dcLiv pmLiv anLiv cdLiv ctLiv), slLiv⟩)
    (cLiv : PySem.W.codeIn K cdLiv "_is_live" = true)
    (kLiv : PySem.W.keepIn K (.ref fLiv) = true)
    (aChk : PySem.W.nsIn K mainGlobals "check_state" = some (some (.ref fChk)))
    (lChk : K.lookup fChk = some ⟨ocChk, odChk, .func (PySem.W.fnOf "check_state" "check_state" (defArgs sCheckState) (defBody sCheckState) (defScope sCheckState) .none kVChk dcChk pmChk anChk cdChk ctChk), slChk⟩)
    (cChk : PySem.W.codeIn K cdChk "check_state" = true)
    (kChk : PySem.W.keepIn K (.ref fChk) = true)
    (aFst : PySem.W.nsIn K mainGlobals "first_state" = some (some (.ref fFst)))
    (lFst : K.lookup fFst = some ⟨ocFst, odFst, .func (PySem.W.fnOf "first_state" "first_state" (defArgs sFirstState) (defBody sFirstState) (defScope sFirstState) .none kVFst dcFst pmFst anFst cdFst ctFst), slFst⟩)
    (cFst : PySem.W.codeIn K cdFst "first_state" = true)
    (kFst : PySem.W.keepIn K (.ref fFst) = true)
    (aRow : PySem.W.nsIn K mainGlobals "_law_row" = some (some (.ref fRow)))
    (lRow : K.lookup fRow = some ⟨ocRow, odRow, .func (PySem.W.fnOf "_law_row" "_law_row" (defArgs sLawRow) (defBody sLawRow) (defScope sLawRow) .none kVRow dcRow pmRow anRow cdRow ctRow), slRow⟩)
    (cRow : PySem.W.codeIn K cdRow "_law_row" = true)
    (kRow : PySem.W.keepIn K (.ref fRow) = true)
    (aNum : PySem.W.nsIn K mainGlobals "_law_numbers" = some (some (.ref fNum)))
    (lNum : K.lookup fNum = some ⟨ocNum, odNum, .func (PySem.W.fnOf "_law_numbers" "_law_numbers" (defArgs sLawNumbers) (defBody sLawNumbers) (defScope sLawNumbers) .none kVNum dcNum pmNum anNum cdNum ctNum), slNum⟩)
    (cNum : PySem.W.codeIn K cdNum "_law_numbers" = true)
    (kNum : PySem.W.keepIn K (.ref fNum) = true)
    (aNms : PySem.W.nsIn K mainGlobals "_law_names" = some (some (.ref fNms)))
    (lNms : K.lookup fNms = some ⟨ocNms, odNms, .func (PySem.W.fnOf "_law_names" "_law_names" (defArgs sLawNames) (defBody sLawNames) (defScope sLawNames) .none kVNms dcNms pmNms anNms cdNms ctNms), slNms⟩)
    (cNms : PySem.W.codeIn K cdNms "_law_names" = true)
    (kNms : PySem.W.keepIn K (.ref fNms) = true)
    (aLoa : PySem.W.nsIn K mainGlobals "_law_loads" = some (some (.ref fLoa)))
    (lLoa : K.lookup fLoa = some ⟨ocLoa, odLoa, .func (PySem.W.fnOf "_law_loads" "_law_loads" (defArgs sLawLoads) (defBody sLawLoads) (defScope sLawLoads) .none kVLoa dcLoa pmLoa anLoa cdLoa ctLoa), slLoa⟩)
    (cLoa : PySem.W.codeIn K cdLoa "_law_loads" = true)
    (kLoa : PySem.W.keepIn K (.ref fLoa) = true)
    (aLco : PySem.W.nsIn K mainGlobals "_law_contact" = some (some (.ref fLco)))
    (lLco : K.lookup fLco = some ⟨ocLco, odLco, .func (PySem.W.fnOf "_law_contact" "_law_contact" (defArgs sLawContact) (defBody sLawContact) (defScope sLawContact) .none kVLco dcLco pmLco anLco cdLco ctLco), slLco⟩)
    (cLco : PySem.W.codeIn K cdLco "_law_contact" = true)
    (kLco : PySem.W.keepIn K (.ref fLco) = true)
    (aBor : PySem.W.nsIn K mainGlobals "_law_board" = some (some (.ref fBor)))
    (lBor : K.lookup fBor = some ⟨ocBor, odBor, .func (PySem.W.fnOf "_law_board" "_law_board" (defArgs sLawBoard) (defBody sLawBoard) (defScope sLawBoard) .none kVBor dcBor pmBor anBor cdBor ctBor), slBor⟩)
    (cBor : PySem.W.codeIn K cdBor "_law_board" = true)
    (kBor : PySem.W.keepIn K (.ref fBor) = true)
    (aMad : PySem.W.nsIn K mainGlobals "_law_made" = some (some (.ref fMad)))
    (lMad : K.lookup fMad = some ⟨ocMad, odMad, .func (PySem.W.fnOf "_law_made" "_law_made" (defArgs sLawMade) (defBody sLawMade) (defScope sLawMade) .none kVMad dcMad pmMad anMad cdMad ctMad), slMad⟩)
    (cMad : PySem.W.codeIn K cdMad "_law_made" = true)
    (kMad : PySem.W.keepIn K (.ref fMad) = true)
    (aLmv : PySem.W.nsIn K mainGlobals "_law_movers" = some (some (.ref fLmv)))
    (lLmv : K.lookup fLmv = some ⟨ocLmv, odLmv, .func (PySem.W.fnOf "_law_movers" "_law_movers" (defArgs sLawMovers) (defBody sLawMovers) (defScope sLawMovers) .none kVLmv dcLmv pmLmv anLmv cdLmv ctLmv), slLmv⟩)
    (cLmv : PySem.W.codeIn K cdLmv "_law_movers" = true)
    (kLmv : PySem.W.keepIn K (.ref fLmv) = true)
    (aSta : PySem.W.nsIn K mainGlobals "_law_state" = some (some (.ref fSta)))
    (lSta : K.lookup fSta = some ⟨ocSta, odSta, .func (PySem.W.fnOf "_law_state" "_law_state" (defArgs sLawState) (defBody sLawState) (defScope sLawState) .none kVSta dcSta pmSta anSta cdSta ctSta), slSta⟩)
    (cSta : PySem.W.codeIn K cdSta "_law_state" = true)
    (kSta : PySem.W.keepIn K (.ref fSta) = true)
    (aClo : PySem.W.nsIn K mainGlobals "_law_closed" = some (some (.ref fClo)))
    (lClo : K.lookup fClo = some ⟨ocClo, odClo, .func (PySem.W.fnOf "_law_closed" "_law_closed" (defArgs sLawClosed) (defBody sLawClosed) (defScope sLawClosed) .none kVClo dcClo pmClo anClo cdClo ctClo), slClo⟩)
    (cClo : PySem.W.codeIn K cdClo "_law_closed" = true)
    (kClo : PySem.W.keepIn K (.ref fClo) = true)
    (aPai : PySem.W.nsIn K mainGlobals "_law_pairs" = some (some (.ref fPai)))
    (lPai : K.lookup fPai = some ⟨ocPai, odPai, .func (PySem.W.fnOf "_law_pairs" "_law_pairs" (defArgs sLawPairs) (defBody sLawPairs) (defScope sLawPairs) .none kVPai dcPai pmPai anPai cdPai ctPai), slPai⟩)
    (cPai : PySem.W.codeIn K cdPai "_law_pairs" = true)
    (kPai : PySem.W.keepIn K (.ref fPai) = true)
    (aRea : PySem.W.nsIn K mainGlobals "_law_reach" = some (some (.ref fRea)))
    (lRea : K.lookup fRea = some ⟨ocRea, odRea, .func (PySem.W.fnOf "_law_reach" "_law_reach" (defArgs sLawReach) (defBody sLawReach) (defScope sLawReach) .none kVRea dcRea pmRea anRea cdRea ctRea), slRea⟩)
    (cRea : PySem.W.codeIn K cdRea "_law_reach" = true)
    (kRea : PySem.W.keepIn K (.ref fRea) = true)
    (aRes : PySem.W.nsIn K mainGlobals "_law_reaches" = some (some (.ref fRes)))
    (lRes : K.lookup fRes = some ⟨ocRes, odRes, .func (PySem.W.fnOf "_law_reaches" "_law_reaches" (defArgs sLawReaches) (defBody sLawReaches) (defScope sLawReaches) .none kVRes dcRes pmRes anRes cdRes ctRes), slRes⟩)
    (cRes : PySem.W.codeIn K cdRes "_law_reaches" = true)
    (kRes : PySem.W.keepIn K (.ref fRes) = true)
    (aLfi : PySem.W.nsIn K mainGlobals "_law_first" = some (some (.ref fLfi)))
    (lLfi : K.lookup fLfi = some ⟨ocLfi, odLfi, .func (PySem.W.fnOf "_law_first" "_law_first" (defArgs sLawFirst) (defBody sLawFirst) (defScope sLawFirst) .none kVLfi dcLfi pmLfi anLfi cdLfi ctLfi), slLfi⟩)
    (cLfi : PySem.W.codeIn K cdLfi "_law_first" = true)
    (kLfi : PySem.W.keepIn K (.ref fLfi) = true)
    (aLss : PySem.W.nsIn K mainGlobals "_law_same_state" = some (some (.ref fLss)))
    (lLss : K.lookup fLss = some ⟨ocLss, odLss, .func (PySem.W.fnOf "_law_same_state" "_law_same_state" (defArgs sLawSameState) (defBody sLawSameState) (defScope sLawSameState) .none kVLss dcLss pmLss anLss cdLss ctLss), slLss⟩)
    (cLss : PySem.W.codeIn K cdLss "_law_same_state" = true)
    (kLss : PySem.W.keepIn K (.ref fLss) = true)
    (aLtd : PySem.W.nsIn K mainGlobals "_law_told" = some (some (.ref fLtd)))
    (lLtd : K.lookup fLtd = some ⟨ocLtd, odLtd, .func (PySem.W.fnOf "_law_told" "_law_told" (defArgs sLawTold) (defBody sLawTold) (defScope sLawTold) .none kVLtd dcLtd pmLtd anLtd cdLtd ctLtd), slLtd⟩)
    (cLtd : PySem.W.codeIn K cdLtd "_law_told" = true)
    (kLtd : PySem.W.keepIn K (.ref fLtd) = true)
    (aLaw : PySem.W.nsIn K mainGlobals "law" = some (some (.ref fLaw)))
    (lLaw : K.lookup fLaw = some ⟨ocLaw, odLaw, .func (PySem.W.fnOf "law" "law" (defArgs sLaw) (defBody sLaw) (defScope sLaw) .none kVLaw dcLaw pmLaw anLaw cdLaw ctLaw), slLaw⟩)
    (cLaw : PySem.W.codeIn K cdLaw "law" = true)
    (kLaw : PySem.W.keepIn K (.ref fLaw) = true)
    (zlen : PySem.W.nsIn K mainGlobals "len" = some none)
    (zall : PySem.W.nsIn K mainGlobals "all" = some none)
    (ztuple : PySem.W.nsIn K mainGlobals "tuple" = some none)
    (zenumerate : PySem.W.nsIn K mainGlobals "enumerate" = some none)
    (zabs : PySem.W.nsIn K mainGlobals "abs" = some none)
    (zint : PySem.W.nsIn K mainGlobals "int" = some none)
    (zrange : PySem.W.nsIn K mainGlobals "range" = some none)
    (zmax : PySem.W.nsIn K mainGlobals "max" = some none)
    (zlist : PySem.W.nsIn K mainGlobals "list" = some none)
    (zisinstance : PySem.W.nsIn K mainGlobals "isinstance" = some none)
    (zbool : PySem.W.nsIn K mainGlobals "bool" = some none)
    (zValueError : PySem.W.nsIn K mainGlobals "ValueError" = some none)
    (aN : PySem.W.nsIn K mainGlobals "Net" = some (some (.ref N)))
    (Npg : PySem.W.plainGet K N Str.empty = true)
    (Nhd : PySem.W.hasDictIn K N = true)
    (Npo : PySem.W.plainOver K N = true)
    (Nsa : PySem.W.findIn K (.ref N) "__setattr__" = some (some (.builtin "object.__setattr__")))
    (Nmk : PySem.W.makesIn K N = true)
    (Nkc : PySem.W.keepIn K (.ref N) = true)
    (N1 : PySem.W.findIn K (.ref N) "_size" = some none)
    (N2 : PySem.W.findIn K (.ref N) "_coils" = some none)
    (N3 : PySem.W.findIn K (.ref N) "_bulbs" = some none)
    (N4 : PySem.W.findIn K (.ref N) "_links" = some none)
    (NG1 : PySem.W.nsIn K mainGlobals "PLUS" = some (some (.int 0 tN1)))
    (NG2 : PySem.W.nsIn K mainGlobals "MINUS" = some (some (.int 1 tN2)))
    (aNIn : PySem.W.findIn K (.ref N) "__init__" = some (some (.ref fNIn)))
    (iNIn : PySem.W.isFn K (.ref fNIn) = true)
    (lNIn : K.lookup fNIn = some ⟨ocNIn, odNIn, .func (PySem.W.fnOf "__init__" "Net.__init__" (defArgs sNetInit) (defBody sNetInit) (defScope sNetInit) .none kVNIn dcNIn pmNIn anNIn cdNIn ctNIn), slNIn⟩)
    (cNIn : PySem.W.codeIn K cdNIn "Net.__init__" = true)
    (kNIn : PySem.W.keepIn K (.ref fNIn) = true)
    (aNFd : PySem.W.findIn K (.ref N) "fed_nodes" = some (some (.ref fNFd)))
    (iNFd : PySem.W.isFn K (.ref fNFd) = true)
    (lNFd : K.lookup fNFd = some ⟨ocNFd, odNFd, .func (PySem.W.fnOf "fed_nodes" "Net.fed_nodes" (defArgs sNetFedNodes) (defBody sNetFedNodes) (defScope sNetFedNodes) .none kVNFd dcNFd pmNFd anNFd cdNFd ctNFd), slNFd⟩)
    (cNFd : PySem.W.codeIn K cdNFd "Net.fed_nodes" = true)
    (kNFd : PySem.W.keepIn K (.ref fNFd) = true)
    (aNFl : PySem.W.findIn K (.ref N) "flow" = some (some (.ref fNFl)))
    (iNFl : PySem.W.isFn K (.ref fNFl) = true)
    (lNFl : K.lookup fNFl = some ⟨ocNFl, odNFl, .func (PySem.W.fnOf "flow" "Net.flow" (defArgs sNetFlow) (defBody sNetFlow) (defScope sNetFlow) .none kVNFl dcNFl pmNFl anNFl cdNFl ctNFl), slNFl⟩)
    (cNFl : PySem.W.codeIn K cdNFl "Net.flow" = true)
    (kNFl : PySem.W.keepIn K (.ref fNFl) = true)
    (aNAr : PySem.W.findIn K (.ref N) "_arrows" = some (some (.ref fNAr)))
    (iNAr : PySem.W.isFn K (.ref fNAr) = true)
    (lNAr : K.lookup fNAr = some ⟨ocNAr, odNAr, .func (PySem.W.fnOf "_arrows" "Net._arrows" (defArgs sNetArrows) (defBody sNetArrows) (defScope sNetArrows) .none kVNAr dcNAr pmNAr anNAr cdNAr ctNAr), slNAr⟩)
    (cNAr : PySem.W.codeIn K cdNAr "Net._arrows" = true)
    (kNAr : PySem.W.keepIn K (.ref fNAr) = true)
    (aW : PySem.W.nsIn K mainGlobals "Flow" = some (some (.ref W)))
    (Wpg : PySem.W.plainGet K W Str.empty = true)
    (Whd : PySem.W.hasDictIn K W = true)
    (Wpo : PySem.W.plainOver K W = true)
    (Wsa : PySem.W.findIn K (.ref W) "__setattr__" = some (some (.builtin "object.__setattr__")))
    (Wmk : PySem.W.makesIn K W = true)
    (Wkc : PySem.W.keepIn K (.ref W) = true)
    (W1 : PySem.W.findIn K (.ref W) "short" = some none)
    (W2 : PySem.W.findIn K (.ref W) "coils" = some none)
    (W3 : PySem.W.findIn K (.ref W) "bulbs" = some none)
    (aWIn : PySem.W.findIn K (.ref W) "__init__" = some (some (.ref fWIn)))
    (iWIn : PySem.W.isFn K (.ref fWIn) = true)
    (lWIn : K.lookup fWIn = some ⟨ocWIn, odWIn, .func (PySem.W.fnOf "__init__" "Flow.__init__" (defArgs sFlowInit) (defBody sFlowInit) (defScope sFlowInit) .none kVWIn dcWIn pmWIn anWIn cdWIn ctWIn), slWIn⟩)
    (cWIn : PySem.W.codeIn K cdWIn "Flow.__init__" = true)
    (kWIn : PySem.W.keepIn K (.ref fWIn) = true)
    (aMc : PySem.W.nsIn K mainGlobals "Machine" = some (some (.ref Mc)))
    (Mpg : PySem.W.plainGet K Mc Str.empty = true)
    (Mhd : PySem.W.hasDictIn K Mc = true)
    (Mpo : PySem.W.plainOver K Mc = true)
    (Msa : PySem.W.findIn K (.ref Mc) "__setattr__" = some (some (.builtin "object.__setattr__")))
    (Mmk : PySem.W.makesIn K Mc = true)
    (Mkc : PySem.W.keepIn K (.ref Mc) = true)
    (M1 : PySem.W.findIn K (.ref Mc) "hurry" = some none)
    (M2 : PySem.W.findIn K (.ref Mc) "_net" = some none)
    (M3 : PySem.W.findIn K (.ref Mc) "_flows" = some none)
    (M4 : PySem.W.findIn K (.ref Mc) "_known_steps" = some none)
    (M5 : PySem.W.findIn K (.ref Mc) "_hand_count" = some none)
    (M6 : PySem.W.findIn K (.ref Mc) "_lamp_names" = some none)
    (M7 : PySem.W.findIn K (.ref Mc) "_all_moves" = some none)
    (aMIn : PySem.W.findIn K (.ref Mc) "__init__" = some (some (.ref fMIn)))
    (iMIn : PySem.W.isFn K (.ref fMIn) = true)
    (lMIn : K.lookup fMIn = some ⟨ocM, odM, .func (PySem.W.fnOf "__init__" "Machine.__init__" (defArgs sMachineInit) (defBody sMachineInit) (defScope sMachineInit) (.ref TD) kVM dcM pmM anM (.ref cMd) ctM), slM⟩)
    (cMIn : PySem.W.codeIn K (.ref cMd) "Machine.__init__" = true)
    (kMIn : PySem.W.keepIn K (.ref fMIn) = true)
    (tMIn : K.lookup TD = some ⟨tcM, tddM, .seq #[.int 0 tkM] tnM, tdsM⟩)
    (aMFa : PySem.W.findIn K (.ref Mc) "flow_at" = some (some (.ref fMFa)))
    (iMFa : PySem.W.isFn K (.ref fMFa) = true)
    (lMFa : K.lookup fMFa = some ⟨ocMFa, odMFa, .func (PySem.W.fnOf "flow_at" "Machine.flow_at" (defArgs sMachineFlowAt) (defBody sMachineFlowAt) (defScope sMachineFlowAt) .none kVMFa dcMFa pmMFa anMFa cdMFa ctMFa), slMFa⟩)
    (cMFa : PySem.W.codeIn K cdMFa "Machine.flow_at" = true)
    (kMFa : PySem.W.keepIn K (.ref fMFa) = true)
    (aMSt : PySem.W.findIn K (.ref Mc) "start" = some (some (.ref fMSt)))
    (iMSt : PySem.W.isFn K (.ref fMSt) = true)
    (lMSt : K.lookup fMSt = some ⟨ocMSt, odMSt, .func (PySem.W.fnOf "start" "Machine.start" (defArgs sMachineStart) (defBody sMachineStart) (defScope sMachineStart) .none kVMSt dcMSt pmMSt anMSt cdMSt ctMSt), slMSt⟩)
    (cMSt : PySem.W.codeIn K cdMSt "Machine.start" = true)
    (kMSt : PySem.W.keepIn K (.ref fMSt) = true)
    (aDF : PySem.W.nsIn K mainGlobals "InvalidState" = some (some (.ref DF)))
    (aIB : PySem.W.nsIn K mainGlobals "InvalidBoard" = some (some (.ref IB)))
    (aIP : PySem.W.nsIn K mainGlobals "InvalidPlay" = some (some (.ref IP)))
    (aLE : PySem.W.nsIn K mainGlobals "LeverhouseError" = some (some (.ref LE)))
    (xDF : PySem.W.excIn K DF [.type "ValueError", .type "Exception", .type "BaseException", .type "object"] "ValueError.__new__" = true)
    (kDF : PySem.W.keepIn K (.ref DF) = true)
    (bDF : PySem.W.subIn K (.ref DF) (.type "BaseException") = some true)
    (vDF : PySem.W.subIn K (.ref DF) (.type "ValueError") = some true)
    (tDF : PySem.W.typeIn K (.ref DF) = some (.type "type"))
    (iDF : PySem.W.isClsIn K DF = true)
    (sDF : PySem.W.subIn K (.ref DF) (.ref DF) = some true)
    (eg : PySem.W.findIn K (.ref DF) "__getattribute__" = some (some (.builtin "BaseException.__getattribute__")))
    (ek : PySem.W.findIn K (.ref DF) "__getattr__" = some none)
    (ed : PySem.W.hasDictIn K DF = true)
    (ea : PySem.W.findIn K (.ref DF) "__class__" = some (some (.builtin "object.__class__")))
    (en : PySem.W.specialIn K (.builtin "object.__class__") "__get__" = some (some (.builtin "getset_descriptor.__get__")))
    (et : PySem.W.takesIn K (.builtin "object.__class__") = some true)
    (em : PySem.W.mroIn K DF (.type "object") = some true)
    (iLE : PySem.W.isClsIn K LE = true)
    (tLE : PySem.W.typeIn K (.ref LE) = some (.type "type"))
    (iIB : PySem.W.isClsIn K IB = true)
    (tIB : PySem.W.typeIn K (.ref IB) = some (.type "type"))
    (iIP : PySem.W.isClsIn K IP = true)
    (tIP : PySem.W.typeIn K (.ref IP) = some (.type "type"))
    (sLE : PySem.W.subIn K (.ref DF) (.ref LE) = some true)
    (sIB : PySem.W.subIn K (.ref DF) (.ref IB) = some false)
    (sIP : PySem.W.subIn K (.ref DF) (.ref IP) = some false)
    : ∃ fd : FuncData, (∀ (s : Shared) (v : Value), BindsTo s fd ⟨[v], []⟩ [("script", v)]) ∧ ∀ base : Heap, K.In base → base.Ns mainGlobals mg → FnOk l.prog w K mg base CX0 8 fa fd ["script"] (spLaw K) := by
  have e := hfa.symm.trans (PySem.W.mg_of X G aLaw)
  cases e
  have FCsp := fun_mk (st := sBoardCheckSpans) lCsp cCsp kCsp
  have bCsp := FCsp.binds (ps := ["self"]) fun _ _ _ _ _ _ us hl => match us, hl with | [_], _ => rfl
  have FCnm := fun_mk (st := sBoardCheckNames) lCnm cCnm kCnm
  have bCnm := FCnm.binds (ps := ["self"]) fun _ _ _ _ _ _ us hl => match us, hl with | [_], _ => rfl
  have FCct := fun_mk (st := sBoardCheckContacts) lCct cCct kCct
  have bCct := FCct.binds (ps := ["self"]) fun _ _ _ _ _ _ us hl => match us, hl with | [_], _ => rfl
  have FIni := fun_mk (st := sBoardInit) lIni cIni kIni
  have FMov := fun_mk (st := sBoardMovers) lMov cMov kMov
  have bMov := FMov.binds (ps := ["self"]) fun _ _ _ _ _ _ us hl => match us, hl with | [_], _ => rfl
  have T : BTxt K mg C (.type "type") fIsn fIsn := ⟨⟨pg, hd, po, sa⟩, nN, nS, nR, nL, nC, nM, PySem.W.mg_of X G aC, PySem.W.mg_of X G aIsn, ⟨rd, ga⟩, ⟨_, m1⟩, ⟨_, m2⟩, ⟨_, m3⟩, ⟨_, m4⟩, ⟨_, m5⟩,
    ⟨_, PySem.W.mg_of X G q1⟩, ⟨_, PySem.W.mg_of X G q2⟩, ⟨_, PySem.W.mg_of X G q3⟩, ⟨_, PySem.W.mg_of X G q4⟩,
    ⟨_, PySem.W.mg_of X G bW, fun H => .inr ⟨_, _, _, eW, rfl, rfl, by show 2 ≤ sizeLine; decide, .cons ⟨_, rfl⟩ (.cons ⟨_, rfl⟩ .nil)⟩⟩, ⟨_, PySem.W.mg_of X G bY, fun H => .inr ⟨_, _, _, eY, rfl, rfl, by show 2 ≤ sizeLine; decide, .cons ⟨_, rfl⟩ (.cons ⟨_, rfl⟩ .nil)⟩⟩,
    PySem.W.mg_none_of X G zlen, PySem.W.mg_none_of X G zall, PySem.W.mg_none_of X G ztuple, PySem.W.mg_none_of X G zenumerate⟩
  have FIsn := fun_mk (st := sIsGoodName) lIsn cIsn kIsn
  have bIsn := FIsn.binds (ps := ["text"]) fun _ _ _ _ _ _ us hl => match us, hl with | [_], _ => rfl
  have gIsn := PySem.W.mg_of X G aIsn
  have FArn := fun_mk (st := sAreNames) lArn cArn kArn
  have bArn := FArn.binds (ps := ["names", "least", "most"]) fun _ _ _ _ _ _ us hl => match us, hl with | [_, _, _], _ => rfl
  have gArn := PySem.W.mg_of X G aArn
  have FSpn := fun_mk (st := sIsSpan) lSpn cSpn kSpn
  have bSpn := FSpn.binds (ps := ["part", "nodes"]) fun _ _ _ _ _ _ us hl => match us, hl with | [_, _], _ => rfl
  have gSpn := PySem.W.mg_of X G aSpn
  have FCnt := fun_mk (st := sIsContact) lCnt cCnt kCnt
  have bCnt := FCnt.binds (ps := ["part", "nodes", "movers"]) fun _ _ _ _ _ _ us hl => match us, hl with | [_, _, _], _ => rfl
  have gCnt := PySem.W.mg_of X G aCnt
  have FCls := fun_mk (st := sCloses) lCls cCls kCls
  have bCls := FCls.binds (ps := ["contact", "on"]) fun _ _ _ _ _ _ us hl => match us, hl with | [_, _], _ => rfl
  have gCls := PySem.W.mg_of X G aCls
  have FSho := fun_mk (st := sIsShort) lSho cSho kSho
  have bSho := FSho.binds (ps := ["board", "state"]) fun _ _ _ _ _ _ us hl => match us, hl with | [_, _], _ => rfl
  have gSho := PySem.W.mg_of X G aSho
  have FTur := fun_mk (st := sTurned) lTur cTur kTur
  have bTur := FTur.binds (ps := ["arrows"]) fun _ _ _ _ _ _ us hl => match us, hl with | [_], _ => rfl
  have gTur := PySem.W.mg_of X G aTur
  have FSpr := fun_mk (st := sSpread) lSpr cSpr kSpr
  have bSpr := FSpr.binds (ps := ["start", "arrows", "size"]) fun _ _ _ _ _ _ us hl => match us, hl with | [_, _, _], _ => rfl
  have gSpr := PySem.W.mg_of X G aSpr
  have FLiv := fun_mk (st := sIsLive) lLiv cLiv kLiv
  have bLiv := FLiv.binds (ps := ["ends", "fed_marks", "feeding"]) fun _ _ _ _ _ _ us hl => match us, hl with | [_, _, _], _ => rfl
  have gLiv := PySem.W.mg_of X G aLiv
  have FChk := fun_mk (st := sCheckState) lChk cChk kChk
  have bChk := FChk.binds (ps := ["board", "state"]) fun _ _ _ _ _ _ us hl => match us, hl with | [_, _], _ => rfl
  have gChk := PySem.W.mg_of X G aChk
  have FFst := fun_mk (st := sFirstState) lFst cFst kFst
  have bFst := FFst.binds (ps := ["board"]) fun _ _ _ _ _ _ us hl => match us, hl with | [_], _ => rfl
  have gFst := PySem.W.mg_of X G aFst
  have FRow := fun_mk (st := sLawRow) lRow cRow kRow
  have bRow := FRow.binds (ps := ["cell", "many"]) fun _ _ _ _ _ _ us hl => match us, hl with | [_, _], _ => rfl
  have gRow := PySem.W.mg_of X G aRow
  have FNum := fun_mk (st := sLawNumbers) lNum cNum kNum
  have bNum := FNum.binds (ps := ["script", "many"]) fun _ _ _ _ _ _ us hl => match us, hl with | [_, _], _ => rfl
  have gNum := PySem.W.mg_of X G aNum
  have FNms := fun_mk (st := sLawNames) lNms cNms kNms
  have bNms := FNms.binds (ps := ["number", "other", "many"]) fun _ _ _ _ _ _ us hl => match us, hl with | [_, _, _], _ => rfl
  have gNms := PySem.W.mg_of X G aNms
  have FLoa := fun_mk (st := sLawLoads) lLoa cLoa kLoa
  have bLoa := FLoa.binds (ps := ["numbers", "at", "many", "names", "nodes"]) fun _ _ _ _ _ _ us hl => match us, hl with | [_, _, _, _, _], _ => rfl
  have gLoa := PySem.W.mg_of X G aLoa
  have FLco := fun_mk (st := sLawContact) lLco cLco kLco
  have bLco := FLco.binds (ps := ["numbers", "at", "nodes", "movers"]) fun _ _ _ _ _ _ us hl => match us, hl with | [_, _, _, _], _ => rfl
  have gLco := PySem.W.mg_of X G aLco
  have FBor := fun_mk (st := sLawBoard) lBor cBor kBor
  have bBor := FBor.binds (ps := ["numbers", "big"]) fun _ _ _ _ _ _ us hl => match us, hl with | [_, _], _ => rfl
  have gBor := PySem.W.mg_of X G aBor
  have FMad := fun_mk (st := sLawMade) lMad cMad kMad
  have bMad := FMad.binds (ps := ["spec"]) fun _ _ _ _ _ _ us hl => match us, hl with | [_], _ => rfl
  have gMad := PySem.W.mg_of X G aMad
  have FLmv := fun_mk (st := sLawMovers) lLmv cLmv kLmv
  have bLmv := FLmv.binds (ps := ["spec"]) fun _ _ _ _ _ _ us hl => match us, hl with | [_], _ => rfl
  have gLmv := PySem.W.mg_of X G aLmv
  have FSta := fun_mk (st := sLawState) lSta cSta kSta
  have bSta := FSta.binds (ps := ["spec", "numbers", "at"]) fun _ _ _ _ _ _ us hl => match us, hl with | [_, _, _], _ => rfl
  have gSta := PySem.W.mg_of X G aSta
  have FClo := fun_mk (st := sLawClosed) lClo cClo kClo
  have bClo := FClo.binds (ps := ["spec", "on", "contact"]) fun _ _ _ _ _ _ us hl => match us, hl with | [_, _, _], _ => rfl
  have gClo := PySem.W.mg_of X G aClo
  have FPai := fun_mk (st := sLawPairs) lPai cPai kPai
  have bPai := FPai.binds (ps := ["spec", "on"]) fun _ _ _ _ _ _ us hl => match us, hl with | [_, _], _ => rfl
  have gPai := PySem.W.mg_of X G aPai
  have FRea := fun_mk (st := sLawReach) lRea cRea kRea
  have bRea := FRea.binds (ps := ["spec", "pairs", "start"]) fun _ _ _ _ _ _ us hl => match us, hl with | [_, _, _], _ => rfl
  have gRea := PySem.W.mg_of X G aRea
  have FRes := fun_mk (st := sLawReaches) lRes cRes kRes
  have bRes := FRes.binds (ps := ["spec", "on"]) fun _ _ _ _ _ _ us hl => match us, hl with | [_, _], _ => rfl
  have gRes := PySem.W.mg_of X G aRes
  have FLfi := fun_mk (st := sLawFirst) lLfi cLfi kLfi
  have bLfi := FLfi.binds (ps := ["spec"]) fun _ _ _ _ _ _ us hl => match us, hl with | [_], _ => rfl
  have gLfi := PySem.W.mg_of X G aLfi
  have FLss := fun_mk (st := sLawSameState) lLss cLss kLss
  have bLss := FLss.binds (ps := ["actual", "expected"]) fun _ _ _ _ _ _ us hl => match us, hl with | [_, _], _ => rfl
  have gLss := PySem.W.mg_of X G aLss
  have FLtd := fun_mk (st := sLawTold) lLtd cLtd kLtd
  have bLtd := FLtd.binds (ps := ["board", "state"]) fun _ _ _ _ _ _ us hl => match us, hl with | [_, _], _ => rfl
  have gLtd := PySem.W.mg_of X G aLtd
  have FLaw := fun_mk (st := sLaw) lLaw cLaw kLaw
  have gLaw := PySem.W.mg_of X G aLaw
  have Y : Txt mg := ⟨PySem.W.mg_none_of X G zabs, PySem.W.mg_none_of X G zint, PySem.W.mg_none_of X G zrange, PySem.W.mg_none_of X G zmax, PySem.W.mg_none_of X G zlist, PySem.W.mg_none_of X G zisinstance, PySem.W.mg_none_of X G zbool, PySem.W.mg_none_of X G zValueError, PySem.W.mg_none_of X G zlen⟩
  refine ⟨PySem.W.fnOf "law" "law" (defArgs sLaw) (defBody sLaw) (defScope sLaw) .none kVLaw dcLaw pmLaw anLaw cdLaw ctLaw, fun s v => .of_eq rfl, fun base _ _ => ?_⟩
  have FNIn := fun_mk (st := sNetInit) lNIn cNIn kNIn
  have bNIn := FNIn.binds (ps := ["self", "board"]) fun _ _ _ _ _ _ us hl => match us, hl with | [_, _], _ => rfl
  have FNFd := fun_mk (st := sNetFedNodes) lNFd cNFd kNFd
  have bNFd := FNFd.binds (ps := ["self", "movers"]) fun _ _ _ _ _ _ us hl => match us, hl with | [_, _], _ => rfl
  have FNFl := fun_mk (st := sNetFlow) lNFl cNFl kNFl
  have bNFl := FNFl.binds (ps := ["self", "movers"]) fun _ _ _ _ _ _ us hl => match us, hl with | [_, _], _ => rfl
  have FNAr := fun_mk (st := sNetArrows) lNAr cNAr kNAr
  have bNAr := FNAr.binds (ps := ["self", "movers"]) fun _ _ _ _ _ _ us hl => match us, hl with | [_, _], _ => rfl
  have TN : NTxt K N := ⟨⟨Npg, Nhd, Npo, Nsa⟩, N1, N2, N3, N4⟩
  have NM : NetM K mg N fNIn fNAr := ⟨PySem.W.mg_of X G aN, ⟨Nmk, aNIn, iNIn, Nkc⟩, ⟨aNAr, iNAr, kNAr⟩, ⟨_, PySem.W.mg_of X G NG1⟩, ⟨_, PySem.W.mg_of X G NG2⟩⟩
  have FWIn := fun_mk (st := sFlowInit) lWIn cWIn kWIn
  have bWIn := FWIn.binds (ps := ["self", "short", "coils", "bulbs"]) fun _ _ _ _ _ _ us hl => match us, hl with | [_, _, _, _], _ => rfl
  have TW : WTxt K W := ⟨⟨Wpg, Whd, Wpo, Wsa⟩, W1, W2, W3⟩
  have MW : Mk K W fWIn := ⟨Wmk, aWIn, iWIn, Wkc⟩
  have FMFa := fun_mk (st := sMachineFlowAt) lMFa cMFa kMFa
  have bMFa := FMFa.binds (ps := ["self", "movers"]) fun _ _ _ _ _ _ us hl => match us, hl with | [_, _], _ => rfl
  have FMSt := fun_mk (st := sMachineStart) lMSt cMSt kMSt
  have bMSt := FMSt.binds (ps := ["self"]) fun _ _ _ _ _ _ us hl => match us, hl with | [_], _ => rfl
  have TM : MTxt K Mc := ⟨⟨Mpg, Mhd, Mpo, Msa⟩, M1, M2, M3, M4, M5, M6, M7⟩
  have MM : Mk K Mc fMIn := ⟨Mmk, aMIn, iMIn, Mkc⟩
  have FMIn := mach_fun lMIn cMIn kMIn tMIn
  obtain ⟨dsM, hdM, bMIn⟩ := mach_binds FMIn
  have M : Mk K C fIni := ⟨mk, aIni, iIni, kc⟩
  have GI : FnOk l.prog w K mg base CX0 4 fIni _ ["self", "nodes", "lamps", "switches", "relays", "contacts"] (spInit K C) := ok_init FIni T ⟨⟨aCsp, iCsp, kCsp⟩, ⟨aCnm, iCnm, kCnm⟩, ⟨aCct, iCct, kCct⟩⟩ FCsp bCsp FCnm bCnm FCct bCct FSpn bSpn gSpn FArn bArn gArn FCnt bCnt gCnt FIsn bIsn (fI1 := fSpn) (fI2 := fArn) (fI3 := fCnt)
  have GR : FnOk l.prog w K mg base CX0 1 fRow _ ["cell", "many"] spRow := ok_row FRow Y.abs Y.int Y.range
  have GNu : FnOk l.prog w K mg base CX0 2 fNum _ ["script", "many"] (spNumbers K) := ok_numbers FNum kRow bRow gRow GR Y.max T.len
  have GBo : FnOk l.prog w K mg base CX0 3 fBor _ ["numbers", "big"] (spBoard K) := ok_board FBor FNms bNms gNms FLoa bLoa gLoa FLco bLco gLco Y.int Y.range T.len
  have GMa : FnOk l.prog w K mg base CX0 6 fMad _ ["spec"] (spMade K C) := ok_made FMad M FIni T.mgB Y.list GI
  have GSt : FnOk l.prog w K mg base CX0 5 fSta _ ["spec", "numbers", "at"] (spState K) := ok_state FSta FLmv bLmv gLmv FClo bClo gClo FPai bPai gPai FRea bRea gRea FRes bRes gRes Y.range T.len Y.int T.tup
  have GPa : FnOk l.prog w K mg base CX0 3 fPai _ ["spec", "on"] (spPairs K) := ok_pairs FPai FLmv bLmv gLmv FClo bClo gClo
  have GRe : FnOk l.prog w K mg base CX0 1 fRea _ ["spec", "pairs", "start"] (spReach K) := ok_reach FRea Y.range T.len
  have GNI : FnOk l.prog w K mg base CX0 3 fNIn _ ["self", "board"] (spNetI K C N) := ok_netI FNIn T TN FMov bMov ⟨aMov, uMov, vMov, ⟨_, rMov⟩⟩
  have XD : ErrC K DF := ⟨xDF, kDF, bDF, tDF, exm_self bDF iDF tDF sDF⟩
  have XC : ExcC K DF := ⟨eg, ek, bDF, ed, ea, en, et, em⟩
  have gDF := PySem.W.mg_of X G aDF
  have PMv : PropOf K C "movers" pMov fMov := ⟨aMov, uMov, vMov, ⟨_, rMov⟩⟩
  have GFl : FnOk l.prog w K mg base CX0 3 fNFl _ ["self", "movers"] (spFlow K N W) := ok_flow FNFl TN NM FNAr bNAr FCls bCls gCls FSpr bSpr gSpr Y.range FTur bTur gTur FLiv bLiv gLiv FWIn bWIn MW TW (PySem.W.mg_of X G aW)
  have GFd : FnOk l.prog w K mg base CX0 3 fNFd _ ["self", "movers"] (spFedN K N fedM) := ok_fedN FNFd TN NM FNAr bNAr FCls bCls gCls FSpr bSpr gSpr Y.range
  have GSh : FnOk l.prog w K mg base CX0 5 fSho _ ["board", "state"] (spShort K C) := ok_short FSho T TN NM bNIn GNI ⟨aNFd, iNFd, kNFd⟩ bNFd GFd
  have GMi : FnOk l.prog w K mg base CX0 5 fMIn _ ["self", "board", "hurry"] (spMachI K C N W Mc l.prog w) := ok_machI FMIn T TN TM NM bNIn GNI
  have GFa : FnOk l.prog w K mg base CX0 4 fMFa _ ["self", "movers"] (spFlowAt K N W Mc l.prog w) := ok_flowAt FMFa TN TM ⟨aNFl, iNFl, kNFl⟩ bNFl GFl
  have GMs : FnOk l.prog w K mg base CX0 5 fMSt _ ["self"] (spStart K N W Mc l.prog w) := ok_start FMSt T TM TW ⟨aMFa, iMFa, kMFa⟩ bMFa GFa
  have GFs : FnOk l.prog w K mg base CX0 7 fFst _ ["board"] (spFirst K C) := ok_first FFst TM MM (PySem.W.mg_of X G aMc) bMIn hdM GMi ⟨aMSt, iMSt, kMSt⟩ bMSt GMs
  have GCk : FnOk l.prog w K mg base (L2.CX l.prog w) 6 fChk _ ["board", "state"] (spChkS K C DF) := ok_chkS FChk T XD gDF FSho bSho gSho GSh FMov bMov PMv
  have GTd : FnOk l.prog w K mg base CX0 7 fLtd _ ["board", "state"] (spTold K C) := ok_told FLtd XD XC gDF (PySem.W.mg_of X G aIB) (PySem.W.mg_of X G aIP) (PySem.W.mg_of X G aLE) (kit_cls iIB tIB sIB sDF) (kit_cls iIP tIP sIP sDF) (kit_cls iLE tLE sLE sDF) (kit_ve vDF) Y.isi Y.int Y.ve FChk bChk gChk GCk
  have GRs : FnOk l.prog w K mg base CX0 4 fRes _ ["spec", "on"] (spReaches K) := ok_reaches FRes FLmv bLmv gLmv FClo bClo gClo FPai bPai gPai FRea bRea gRea Y.range T.len
  have GLf : FnOk l.prog w K mg base CX0 5 fLfi _ ["spec"] (spLFirst K) := ok_lfirst FLfi FLmv bLmv gLmv T.tup FRes bRes gRes GRs
  have GLs : FnOk l.prog w K mg base CX0 1 fLss _ ["actual", "expected"] (spLSame K) := ok_lsame FLss Y.isi T.tup Y.bool T.len T.all
  exact ok_law FLaw Y FNum bNum gNum GNu FBor bBor gBor GBo FMad bMad gMad GMa FSta bSta gSta GSt FFst bFst gFst GFs FLss bLss gLss GLs FLfi bLfi gLfi GLf FLtd bLtd gLtd GTd FRes bRes gRes GRs
end Lv
open PySem PySem.W PyProof.Rows
set_option maxRecDepth 100000 in
set_option maxHeartbeats 0 in
theorem PySem.Challenge.cw_leverhouse_k15_first_state_and_check_holds : PySem.Challenge.rw_leverhouse_k15_first_state_and_check.Holds := by
  w_on; o_law; k_head; (case hw => w_witness2)
  k_fill
  refine L2.walk_of (l := PySem.Challenge.rw_leverhouse_k15_first_state_and_check) (n := 63) (k := 8) (x := "script") (CX := fun _ => L2.CX0) (sp := fun w => Lv.spLaw _) rfl (by decide) rfl ⟨rfl, by decide, by decide⟩ (fun w h Y => PySem.W.kIn_of Y) ?F (fun _ _ a ns hl _ hS => ⟨a, ns, rfl, hS, hl, fun _ => rfl⟩) (fun _ _ _ _ _ h => h)
  case F =>
    intro w mg fa h KX G hmg
    refine' Lv.all_mk KX G hmg ?aC ?pg ?hd ?po ?sa ?mk ?kc ?rd ?ga ?nN ?nS ?nR ?nL ?nC ?nM ?m1 ?m2 ?m3 ?m4 ?m5 ?q1 ?q2 ?q3 ?q4 ?bW ?eW ?bY ?eY ?aCsp ?iCsp ?lCsp ?cCsp ?kCsp ?aCnm ?iCnm ?lCnm ?cCnm ?kCnm ?aCct ?iCct ?lCct ?cCct ?kCct ?aIni ?iIni ?lIni ?cIni ?kIni ?aMov ?uMov ?vMov ?rMov ?lMov ?cMov ?kMov ?aIsn ?lIsn ?cIsn ?kIsn ?aArn ?lArn ?cArn ?kArn ?aSpn ?lSpn ?cSpn ?kSpn ?aCnt ?lCnt ?cCnt ?kCnt ?aCls ?lCls ?cCls ?kCls ?aSho ?lSho ?cSho ?kSho ?aTur ?lTur ?cTur ?kTur ?aSpr ?lSpr ?cSpr ?kSpr ?aLiv ?lLiv ?cLiv ?kLiv ?aChk ?lChk ?cChk ?kChk ?aFst ?lFst ?cFst ?kFst ?aRow ?lRow ?cRow ?kRow ?aNum ?lNum ?cNum ?kNum ?aNms ?lNms ?cNms ?kNms ?aLoa ?lLoa ?cLoa ?kLoa ?aLco ?lLco ?cLco ?kLco ?aBor ?lBor ?cBor ?kBor ?aMad ?lMad ?cMad ?kMad ?aLmv ?lLmv ?cLmv ?kLmv ?aSta ?lSta ?cSta ?kSta ?aClo ?lClo ?cClo ?kClo ?aPai ?lPai ?cPai ?kPai ?aRea ?lRea ?cRea ?kRea ?aRes ?lRes ?cRes ?kRes ?aLfi ?lLfi ?cLfi ?kLfi ?aLss ?lLss ?cLss ?kLss ?aLtd ?lLtd ?cLtd ?kLtd ?aLaw ?lLaw ?cLaw ?kLaw ?zlen ?zall ?ztuple ?zenumerate ?zabs ?zint ?zrange ?zmax ?zlist ?zisinstance ?zbool ?zValueError ?aN ?Npg ?Nhd ?Npo ?Nsa ?Nmk ?Nkc ?N1 ?N2 ?N3 ?N4 ?NG1 ?NG2 ?aNIn ?iNIn ?lNIn ?cNIn ?kNIn ?aNFd ?iNFd ?lNFd ?cNFd ?kNFd ?aNFl ?iNFl ?lNFl ?cNFl ?kNFl ?aNAr ?iNAr ?lNAr ?cNAr ?kNAr ?aW ?Wpg ?Whd ?Wpo ?Wsa ?Wmk ?Wkc ?W1 ?W2 ?W3 ?aWIn ?iWIn ?lWIn ?cWIn ?kWIn ?aMc ?Mpg ?Mhd ?Mpo ?Msa ?Mmk ?Mkc ?M1 ?M2 ?M3 ?M4 ?M5 ?M6 ?M7 ?aMIn ?iMIn ?lMIn ?cMIn ?kMIn ?tMIn ?aMFa ?iMFa ?lMFa ?cMFa ?kMFa ?aMSt ?iMSt ?lMSt ?cMSt ?kMSt ?aDF ?aIB ?aIP ?aLE ?xDF ?kDF ?bDF ?vDF ?tDF ?iDF ?sDF ?eg ?ek ?ed ?ea ?en ?et ?em ?iLE ?tLE ?iIB ?tIB ?iIP ?tIP ?sLE ?sIB ?sIP
    (case aC => k_is); (case pg => k_is); (case hd => k_is); (case po => k_is); (case sa => k_is); (case mk => k_is); (case kc => k_is); (case rd => k_is); (case ga => k_is); (case nN => k_is); (case nS => k_is); (case nR => k_is); (case nL => k_is); (case nC => k_is); (case nM => k_is); (case m1 => k_is); (case m2 => k_is); (case m3 => k_is); (case m4 => k_is); (case m5 => k_is); (case q1 => k_is); (case q2 => k_is); (case q3 => k_is); (case q4 => k_is); (case bW => k_is); (case eW => k_is); (case bY => k_is); (case eY => k_is); (case aCsp => k_is); (case iCsp => k_is); (case lCsp => k_is); (case cCsp => k_is); (case kCsp => k_is); (case aCnm => k_is); (case iCnm => k_is); (case lCnm => k_is); (case cCnm => k_is); (case kCnm => k_is); (case aCct => k_is); (case iCct => k_is); (case lCct => k_is); (case cCct => k_is); (case kCct => k_is); (case aIni => k_is); (case iIni => k_is); (case lIni => k_is); (case cIni => k_is); (case kIni => k_is); (case aMov => k_is); (case uMov => k_is); (case vMov => k_is); (case rMov => k_is); (case lMov => k_is); (case cMov => k_is); (case kMov => k_is); (case aIsn => k_is); (case lIsn => k_is); (case cIsn => k_is); (case kIsn => k_is); (case aArn => k_is); (case lArn => k_is); (case cArn => k_is); (case kArn => k_is); (case aSpn => k_is); (case lSpn => k_is); (case cSpn => k_is); (case kSpn => k_is); (case aCnt => k_is); (case lCnt => k_is); (case cCnt => k_is); (case kCnt => k_is); (case aCls => k_is); (case lCls => k_is); (case cCls => k_is); (case kCls => k_is); (case aSho => k_is); (case lSho => k_is); (case cSho => k_is); (case kSho => k_is); (case aTur => k_is); (case lTur => k_is); (case cTur => k_is); (case kTur => k_is); (case aSpr => k_is); (case lSpr => k_is); (case cSpr => k_is); (case kSpr => k_is); (case aLiv => k_is); (case lLiv => k_is); (case cLiv => k_is); (case kLiv => k_is); (case aChk => k_is); (case lChk => k_is); (case cChk => k_is); (case kChk => k_is); (case aFst => k_is); (case lFst => k_is); (case cFst => k_is); (case kFst => k_is); (case aRow => k_is); (case lRow => k_is); (case cRow => k_is); (case kRow => k_is); (case aNum => k_is); (case lNum => k_is); (case cNum => k_is); (case kNum => k_is); (case aNms => k_is); (case lNms => k_is); (case cNms => k_is); (case kNms => k_is); (case aLoa => k_is); (case lLoa => k_is); (case cLoa => k_is); (case kLoa => k_is); (case aLco => k_is); (case lLco => k_is); (case cLco => k_is); (case kLco => k_is); (case aBor => k_is); (case lBor => k_is); (case cBor => k_is); (case kBor => k_is); (case aMad => k_is); (case lMad => k_is); (case cMad => k_is); (case kMad => k_is); (case aLmv => k_is); (case lLmv => k_is); (case cLmv => k_is); (case kLmv => k_is); (case aSta => k_is); (case lSta => k_is); (case cSta => k_is); (case kSta => k_is); (case aClo => k_is); (case lClo => k_is); (case cClo => k_is); (case kClo => k_is); (case aPai => k_is); (case lPai => k_is); (case cPai => k_is); (case kPai => k_is); (case aRea => k_is); (case lRea => k_is); (case cRea => k_is); (case kRea => k_is); (case aRes => k_is); (case lRes => k_is); (case cRes => k_is); (case kRes => k_is); (case aLfi => k_is); (case lLfi => k_is); (case cLfi => k_is); (case kLfi => k_is); (case aLss => k_is); (case lLss => k_is); (case cLss => k_is); (case kLss => k_is); (case aLtd => k_is); (case lLtd => k_is); (case cLtd => k_is); (case kLtd => k_is); (case aLaw => k_is); (case lLaw => k_is); (case cLaw => k_is); (case kLaw => k_is); (case zlen => k_is); (case zall => k_is); (case ztuple => k_is); (case zenumerate => k_is); (case zabs => k_is); (case zint => k_is); (case zrange => k_is); (case zmax => k_is); (case zlist => k_is); (case zisinstance => k_is); (case zbool => k_is); (case zValueError => k_is); (case aN => k_is); (case Npg => k_is); (case Nhd => k_is); (case Npo => k_is); (case Nsa => k_is); (case Nmk => k_is); (case Nkc => k_is); (case N1 => k_is); (case N2 => k_is); (case N3 => k_is); (case N4 => k_is); (case NG1 => k_is); (case NG2 => k_is); (case aNIn => k_is); (case iNIn => k_is); (case lNIn => k_is); (case cNIn => k_is); (case kNIn => k_is); (case aNFd => k_is); (case iNFd => k_is); (case lNFd => k_is); (case cNFd => k_is); (case kNFd => k_is); (case aNFl => k_is); (case iNFl => k_is); (case lNFl => k_is); (case cNFl => k_is); (case kNFl => k_is); (case aNAr => k_is); (case iNAr => k_is); (case lNAr => k_is); (case cNAr => k_is); (case kNAr => k_is); (case aW => k_is); (case Wpg => k_is); (case Whd => k_is); (case Wpo => k_is); (case Wsa => k_is); (case Wmk => k_is); (case Wkc => k_is); (case W1 => k_is); (case W2 => k_is); (case W3 => k_is); (case aWIn => k_is); (case iWIn => k_is); (case lWIn => k_is); (case cWIn => k_is); (case kWIn => k_is); (case aMc => k_is); (case Mpg => k_is); (case Mhd => k_is); (case Mpo => k_is); (case Msa => k_is); (case Mmk => k_is); (case Mkc => k_is); (case M1 => k_is); (case M2 => k_is); (case M3 => k_is); (case M4 => k_is); (case M5 => k_is); (case M6 => k_is); (case M7 => k_is); (case aMIn => k_is); (case iMIn => k_is); (case lMIn => k_is); (case cMIn => k_is); (case kMIn => k_is); (case tMIn => k_is); (case aMFa => k_is); (case iMFa => k_is); (case lMFa => k_is); (case cMFa => k_is); (case kMFa => k_is); (case aMSt => k_is); (case iMSt => k_is); (case lMSt => k_is); (case cMSt => k_is); (case kMSt => k_is); (case aDF => k_is); (case aIB => k_is); (case aIP => k_is); (case aLE => k_is); (case xDF => k_exc); (case kDF => k_is); (case bDF => k_is); (case vDF => k_is); (case tDF => k_is); (case iDF => k_is); (case sDF => first | rfl | k_is); (case eg => k_is); (case ek => k_is); (case ed => k_is); (case ea => k_is); (case en => k_is); (case et => k_is); (case em => k_is); (case iLE => k_is); (case tLE => k_is); (case iIB => k_is); (case tIB => k_is); (case iIP => k_is); (case tIP => k_is); (case sLE => k_is); (case sIB => k_is); (case sIP => k_is)

