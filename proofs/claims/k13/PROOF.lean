import PyProof.Rows.All
import Wide.All
import OpenK.AllK
import Wide.FinOn
import HandS.ForMost
import HandS.IsInst
import HandS.Walk
import HandS.TupAny
import HandS.Property
import HandS.ClsMeth
import HandS.MakeKwOnly
import HandS.Star
import KE.GoesEnum
import KE.GoesMore
import HandS.Codes
import HandS.TryOnly
import HandS.Zip
import HandS.DictComp
import HandS.NoneIn
import HandS.Strs
import HandS.Flow
import PySem.Challenge.RW_leverhouse_k13_fed_nodes
set_option Elab.async false
set_option linter.all false
set_option maxRecDepth 100000
set_option maxHeartbeats 1000000
namespace Lv
open PySem PySem.Spec PyProof.Rows L2
def topS (i : Nat) : Stmt := PySem.Challenge.pw_leverhouse_k13_fed_nodes.main.body.getD i (.Pass ⟨0, 0, 0, 0⟩)
abbrev sWall : Stmt := topS 0
abbrev sIsGoodName : Stmt := topS 11
abbrev sAreNames : Stmt := topS 12
abbrev sIsSpan : Stmt := topS 13
abbrev sIsContact : Stmt := topS 14
abbrev sBoardInit : Stmt := inClass (topS 15) 5
abbrev sBoardCheckSpans : Stmt := inClass (topS 15) 6
abbrev sBoardCheckNames : Stmt := inClass (topS 15) 7
abbrev sBoardCheckContacts : Stmt := inClass (topS 15) 8
abbrev sBoardIsName : Stmt := inClass (topS 15) 9
abbrev sBoardPlus : Stmt := inClass (topS 15) 10
abbrev sBoardMinus : Stmt := inClass (topS 15) 11
abbrev sBoardMovers : Stmt := inClass (topS 15) 12
abbrev sBoardMoverNumber : Stmt := inClass (topS 15) 13
abbrev sBoardIsSwitch : Stmt := inClass (topS 15) 14
abbrev sBoardContactsOf : Stmt := inClass (topS 15) 15
abbrev sBoardContactsAt : Stmt := inClass (topS 15) 16
abbrev sBoardWires : Stmt := inClass (topS 15) 17
abbrev sBoardReplaceContact : Stmt := inClass (topS 15) 18
abbrev sBoardInsertContact : Stmt := inClass (topS 15) 19
abbrev sBoardWithoutContact : Stmt := inClass (topS 15) 20
abbrev sBoardWithContacts : Stmt := inClass (topS 15) 21
abbrev sCloses : Stmt := topS 19
abbrev sFed : Stmt := topS 20
abbrev sFeeds : Stmt := topS 21
abbrev sIsShort : Stmt := topS 22
abbrev sMarked : Stmt := topS 23
abbrev sNetInit : Stmt := inClass (topS 24) 0
abbrev sNetFedNodes : Stmt := inClass (topS 24) 1
abbrev sNetFeedingNodes : Stmt := inClass (topS 24) 2
abbrev sNetFlow : Stmt := inClass (topS 24) 3
abbrev sNetArrows : Stmt := inClass (topS 24) 4
abbrev sTurned : Stmt := topS 25
abbrev sSpread : Stmt := topS 26
abbrev sLawRow : Stmt := topS 28
abbrev sLawNumbers : Stmt := topS 29
abbrev sLawNames : Stmt := topS 30
abbrev sLawLoads : Stmt := topS 31
abbrev sLawContact : Stmt := topS 32
abbrev sLawBoard : Stmt := topS 33
abbrev sLawMade : Stmt := topS 34
abbrev sLawMovers : Stmt := topS 35
abbrev sLawState : Stmt := topS 36
abbrev sLawClosed : Stmt := topS 37
abbrev sLawPairs : Stmt := topS 38
abbrev sLawReach : Stmt := topS 39
abbrev sLawReaches : Stmt := topS 40
abbrev sLawAreStrings : Stmt := topS 41
abbrev sLaw : Stmt := topS 42

/-! ### strings and numbers -/
def alph : List Nat := ("abcdefghijklmnopqrstuvwxyz0123456789" : Str).cps.toList
theorem alph_len : alph.length = 36 := by decide +kernel
theorem alph_lt : ∀ c ∈ alph, c < 1114112 := by decide +kernel
/-- letters and figures alone -/
def Al (z : Str) : Prop := ∀ c ∈ z.cps.toList, c ∈ alph
/-- a name: 1 to 12 letters and figures -/
def Nm (z : Str) : Prop := 1 ≤ z.length ∧ z.length ≤ 12 ∧ Al z
def Nums (ns : List Int) : Prop := ∀ n ∈ ns, 0 ≤ n ∧ n < 1009
theorem len_tl (z : Str) : z.length = z.cps.toList.length := by
  show z.cps.size = z.cps.toList.length
  rw [Array.length_toList]
theorem app_tl (a b : Str) : (a ++ b).cps.toList = a.cps.toList ++ b.cps.toList := by
  show (a.cps ++ b.cps).toList = _
  rw [Array.toList_append]
theorem app_len (a b : Str) : (a ++ b).length = a.length + b.length := by
  rw [len_tl, len_tl, len_tl, app_tl, List.length_append]
theorem Al.app {a b : Str} (h1 : Al a) (h2 : Al b) : Al (a ++ b) := by
  intro c hc
  rw [app_tl, List.mem_append] at hc
  rcases hc with hc | hc
  · exact h1 c hc
  · exact h2 c hc
theorem Al.ok {z : Str} (h : Al z) : PyData.strOk z = true := by
  unfold PyData.strOk
  rw [← Array.all_toList, List.all_eq_true]
  intro c hc
  exact decide_eq_true (alph_lt c (h c hc))
theorem str_ext {a b : Str} (h : a.cps.toList = b.cps.toList) : a = b := by
  cases a; cases b
  exact congrArg Str.mk (Array.toList_inj.mp h)
theorem cut_take (z : Str) (p : Nat) : (cutS z none (some (p : Int))).cps.toList = z.cps.toList.take p := by
  unfold cutS
  rw [HT.sIx_nat, HT.sIx_none, List.drop_zero, Nat.sub_zero, len_tl]
  show (List.take (min p z.cps.toList.length) z.cps.toList).toArray.toList = _
  exact List.take_eq_take_min.symm
theorem cut_drop (z : Str) (p : Nat) : (cutS z (some (p : Int)) none).cps.toList = z.cps.toList.drop p := by
  unfold cutS
  rw [HT.sIx_nat, HT.sIx_none, len_tl]
  show (List.take (z.cps.toList.length - min p z.cps.toList.length) (List.drop (min p z.cps.toList.length) z.cps.toList)).toArray.toList = _
  by_cases h : p ≤ z.cps.toList.length
  · rw [Nat.min_eq_left h]
    exact List.take_of_length_le (by rw [List.length_drop]; exact Nat.le_refl _)
  · rw [Nat.min_eq_right (by omega), List.drop_length, List.drop_eq_nil_of_le (by omega)]
    simp
theorem join_ok : ∀ zs : List Str, (∀ z ∈ zs, z.length = 1 ∧ Al z) → (Str.join "" zs).length = zs.length ∧ Al (Str.join "" zs)
  | [], _ => ⟨rfl, fun c hc => by cases hc⟩
  | [x], h => ⟨(h x (List.mem_singleton.mpr rfl)).1, (h x (List.mem_singleton.mpr rfl)).2⟩
  | x :: y :: r, h => by
    have ih := join_ok (y :: r) fun z hz => h z (List.mem_cons_of_mem _ hz)
    have hx := h x List.mem_cons_self
    have e0 : ("" : Str).length = 0 := by decide +kernel
    have a0 : Al ("" : Str) := fun c hc => by cases hc
    show (x ++ ("" : Str) ++ Str.join "" (y :: r)).length = _ ∧ Al (x ++ ("" : Str) ++ Str.join "" (y :: r))
    refine ⟨?_, (hx.2.app a0).app ih.2⟩
    rw [app_len, app_len, hx.1, e0, ih.1]
    show 1 + 0 + (y :: r).length = (y :: r).length + 1
    omega
theorem at_in {α : Type} (xs : List α) (i : Int) (h0 : 0 ≤ i) (h1 : i < (xs.length : Int)) : ∃ v, v ∈ xs ∧ xs[i.toNat]? = some v ∧ atI xs i = some v := by
  have hl : i.toNat < xs.length := by omega
  refine ⟨xs[i.toNat], List.getElem_mem hl, List.getElem?_eq_getElem hl, ?_⟩
  have e := atI_nat (xs := xs) (j := i.toNat) (List.getElem?_eq_getElem hl)
  rwa [Int.toNat_of_nonneg h0] at e
theorem at_num {ns : List Int} (hn : Nums ns) (i : Int) (h0 : 0 ≤ i) (h1 : i < (ns.length : Int)) : ∃ n, 0 ≤ n ∧ n < 1009 ∧ atI (ns.map V.int) i = some (.int n) := by
  obtain ⟨v, hv, _, e⟩ := at_in (ns.map V.int) i h0 (by rw [List.length_map]; exact h1)
  obtain ⟨n, hm, rfl⟩ := List.mem_map.mp hv
  exact ⟨n, (hn n hm).1, (hn n hm).2, e⟩
theorem Nums.snoc {ns : List Int} (h : Nums ns) {n : Int} (h0 : 0 ≤ n) (h1 : n < 1009) : Nums (ns ++ [n]) := by
  intro m hm
  rw [List.mem_append, List.mem_singleton] at hm
  rcases hm with hm | rfl
  · exact h m hm
  · exact ⟨h0, h1⟩
/-! ### heaps -/
theorem same_upd {H : Hp} {p : Addr} {o : HO} (h : H p = none) : Same H (upd H p o) := fun b x e => by
  rw [upd_ne (ne_of_none e h)]
  exact e
/-- what H does not know may change -/
theorem same_mut {H H2 : Hp} {p : Addr} {o : HO} (s : Same H H2) (h : H p = none) : Same H (upd H2 p o) := fun b x e => by
  rw [upd_ne (ne_of_none e h)]
  exact s _ _ e
theorem sq {K : PySem.W.Frag} {H : Hp} {a : Addr} {xs : List V} (h : H a = some (.lst xs)) : SqL K H a xs := .inl (.inl h)
theorem st {K : PySem.W.Frag} {H : Hp} {a : Addr} {xs : List V} (h : H a = some (.tup xs)) : SqT K H a xs := .inl (.inl h)
theorem szl {n : Nat} (h : n ≤ 1000000) : n ≤ sizeLine := Nat.le_trans h (by decide)
theorem szlt {n : Nat} (h : n ≤ 1000000) : n < sizeLine := Nat.lt_of_le_of_lt h (by decide)
theorem map_snoc {α β : Type} (f : α → β) (xs : List α) (x : α) : (xs ++ [x]).map f = xs.map f ++ [f x] := by
  rw [List.map_append]
  rfl
theorem cut_list (xs : List V) (n : Nat) : cutV xs none (some (n : Int)) = xs.take n := by
  unfold cutV
  rw [HT.sIx_nat, HT.sIx_none, List.drop_zero, Nat.sub_zero, ← List.take_eq_take_min]
theorem yesT {σ : L2.St} {H : Hp} {A B : Hp → Prop} (h : A H) : tYes σ H (fun b H3 => if b = true then A H3 else B H3) := by
  show (if true = true then A H else B H)
  rw [if_pos rfl]
  exact h
/-! ### enumerate of a tuple -/
/-- the turns: the place and the item, in a new pair -/
def ItU (K : PySem.W.Frag) (a : Addr) : It :=
  ⟨fun i H => ∃ (xs : List V) (x : V), SqT K H a xs ∧ xs[i]? = some x, fun i H v G => ∃ T x, v = .ref T ∧ H T = none ∧ G = upd H T (.tup [.int (i : Nat), x]) ∧ ∀ xs, SqT K H a xs → xs[i]? = some x,
    fun i H => ∃ xs : List V, SqT K H a xs ∧ xs.length ≤ i⟩
theorem newU {v : Value} {o : Obj} {J : Heap → Prop} (B : Begins v o J) :
    Meets (Builtin.«enumerate.__new__» ⟨[.type "enumerate", v], []⟩) (fun _ R z => J z.heap ∧
      R (.ok (.ret (.ref (z.heap.push o).objs.size))) { z with heap := (z.heap.push o).push { cls := .type "enumerate", data := .fields #[.none, .bool false, .ref z.heap.objs.size, rawInt 0, .none, .none] } }) :=
  .of_wp fun prog wd A R z hz => by
    obtain ⟨hp, gn, dr, tk, os⟩ := z
    obtain ⟨j1, hr⟩ := hz
    have hsub := sub_enumerate
    have q1 : ∀ {B' : Around} {E2 : Value → Shared → Prop} {Q2 : Value → Shared → Prop}, Q2 (.ref hp.objs.size) ⟨hp.push o, gn, dr, tk, os⟩ → wpAny (model prog wd) B' (pyIter v) Q2 E2 ⟨hp, gn, dr, tk, os⟩ :=
      fun y => B.iter prog wd _ _ ⟨hp, gn, dr, tk, os⟩ _ j1 y
    wp_walk using q1
    refine wpAny_stack_any fun _ => wpAny_pure ?_
    split
    · rename_i c _ _ _ _ _
      cases (c == Value.type "enumerate") <;> (wp_walk using q1; exact ⟨_, rfl, hr⟩)
    · wp_walk using q1
      exact ⟨_, rfl, hr⟩
theorem callU {prog : Program} {wd : World} {A : Around} {E : Value → Shared → Prop} {z : Shared} {v : Value} {o : Obj} {J : Heap → Prop} {Q : Value → Shared → Prop} (B : Begins v o J) (j1 : J z.heap)
    (hq : ∀ g, IsEnum g (z.heap.objs.size + 1) z.heap.objs.size 0 .none → g.get? z.heap.objs.size = some o → (∀ b u, z.heap.get? b = some u → g.get? b = some u) → Q (.ref (z.heap.objs.size + 1)) { z with heap := g }) :
    wpAny (model prog wd) A (call (.type "enumerate") [v]) Q E z := by
  refine callType_new F.called_enumerate (by decide) (F.typeCall_enumerate_1 _) (F.newCall_enumerate_1 _) (fun ob => F.args_object_init_2 ob _) F.entry_enumerate_new (newU B) ⟨j1, ?_⟩
  have hsz : (z.heap.push o).objs.size = z.heap.objs.size + 1 := Heap.size_push ..
  show _ ∧ _
  rw [hsz]
  have hen : IsEnum ((z.heap.push o).push { cls := .type "enumerate", data := .fields #[.none, .bool false, .ref z.heap.objs.size, rawInt 0, .none, .none] }) (z.heap.objs.size + 1) z.heap.objs.size 0 .none := by
    have y := Heap.get?_push_size (z.heap.push o) (o := { cls := .type "enumerate", data := .fields #[.none, .bool false, .ref z.heap.objs.size, rawInt 0, .none, .none] }) rfl
    rwa [hsz] at y
  exact ⟨⟨_, hen, rfl⟩, hq _ hen (Heap.get?_push_of_some _ (Heap.get?_push_size _ B.free)) fun _ _ y => Heap.get?_push_of_some _ (Heap.get?_push_of_some _ y)⟩
theorem turnU {P : Program} {w : World} {K : PySem.W.Frag} {elts : List Expr} {kk : Nat} {tpos : Pos} (a e it : Addr) :
    Turn P w K (.Tuple elts kk tpos) (ItU K a) [e, it] e (fun i g => (∃ old, IsEnum g e it ((i : Nat) : Int) old) ∧ g.IsTupleIter it a i ∧ e ≠ it) where
  mem := by simp
  obj := fun i g y b hb => by
    obtain ⟨⟨old, he⟩, ⟨o, ho, _, hd⟩, _⟩ := y
    rcases (show b = e ∨ b = it by simpa using hb) with q | q
    · subst q
      exact ⟨_, he, fun v z => nomatch z⟩
    · subst q
      exact ⟨o, ho, fun v z => by rw [hd] at z; cases z⟩
  keep := fun i g g' y k => ⟨y.1.elim fun old he => ⟨old, k e (by simp) _ he⟩, y.2.1.at fun o q => k it (by simp) o q, y.2.2⟩
  item := by
    intro X hP hw hK hc i pins z σ H E I hf y hg
    subst hP hw hK
    obtain ⟨⟨old, he⟩, hit, hne⟩ := y
    obtain ⟨xs, x, hq, hx⟩ := hg
    obtain ⟨its, rv, tp, _⟩ := I.tuple hq
    obtain ⟨u, hu, ru⟩ := rv.get hx
    have hel : e < z.heap.objs.size := Heap.lt_size he
    have hil : it < z.heap.objs.size := by
      obtain ⟨_, q, _⟩ := hit
      exact Heap.lt_size q
    have hae : a ≠ e := fun q => by
      obtain ⟨o1, e1, e2, _⟩ := tp
      rw [q, he] at e1
      cases e1
      injection e2 with e5
      exact absurd e5 (by decide)
    have hai : a ≠ it := fun q => by
      obtain ⟨o1, e1, e2, _⟩ := tp
      obtain ⟨o3, e3, e4, _⟩ := hit
      rw [q, e3] at e1
      cases e1
      rw [e4] at e2
      injection e2 with e5
      exact absurd e5 (by decide)
    have lt : i < its.toArray.size := by
      have := (List.getElem?_eq_some_iff.mp hu).1
      simpa using this
    refine wpAny_pyNext_enum_itemC (Draws.tuple (prog := X.prog) (w := X.w) (A := X.A.in1) (I.ok.hd hc) it a hai its.toArray) he ⟨hit, tp⟩ lt hne (by simp [hne, hae.symm]) fun v g tk hv ho hs' hT hsz hk => ?_
    have ev : v = u := by
      rw [show its.toArray[i]? = some u by simpa using hu] at hv
      exact (Option.some.inj hv).symm
    subst ev
    refine ⟨_, rfl, wpAny_letOwnedTupleGo_enum (s := { z with heap := g, toks := tk + 1 }) ho fun g2 he2 sb => ?_⟩
    have hT2 : g2.get? z.heap.objs.size = some { cls := .type "tuple", data := .seq #[.int i tk, v] } := (sb.2 _ (Nat.ne_of_gt hel)).trans hT
    have nw : ObjOk X.prog X.w (upd H z.heap.objs.size (.tup [.int (i : Nat), x])) g2 z.heap.objs.size (.tup [.int (i : Nat), x]) :=
      ⟨by show 2 ≤ sizeLine; decide, [.int i tk, v], .cons ⟨_, rfl⟩ (.cons ru .nil), ⟨_, hT2, rfl, _, rfl⟩⟩
    have I1 : Inv X pins σ (upd H z.heap.objs.size (.tup [.int (i : Nat), x])) { z with heap := g2, toks := tk + 1 } :=
      I.turnedNew (ch := [e, it]) (fun b ob hb q => (sb.2 b (fun m => hb (by simp [m]))).trans (hk b ob (fun m => hb (by simp [m])) (fun m => hb (by simp [m])) q)) hf (Nat.le_refl _) nw
    refine ⟨.ref z.heap.objs.size, _, I1, rfl, ⟨_, x, rfl, I.hok.fresh (Nat.le_refl _), rfl, fun ys hy => by rw [I.tuple_inj hy hq]; exact hx⟩, ⟨⟨v, ?_⟩, hs'.1.at fun o q => (sb.2 it (Ne.symm hne)).trans q, hne⟩, fun b hb => ?_⟩
    · rw [show ((i + 1 : Nat) : Int) = (i : Int) + 1 by omega]
      exact he2
    · have lb : b < z.heap.objs.size := by
        rcases (show b = e ∨ b = it by simpa using hb) with q | q
        · rw [q]; exact hel
        · rw [q]; exact hil
      rw [upd_ne (Nat.ne_of_lt lb)]
      exact (hf b hb).1
  done := by
    intro X hP hw hK hc i pins z σ H E I hf y hg
    subst hP hw hK
    obtain ⟨⟨old, he⟩, hit, hne⟩ := y
    obtain ⟨xs, hq, hx⟩ := hg
    obtain ⟨its, rv, tp, _⟩ := I.tuple hq
    obtain ⟨f0, f1, f2, f3, f4, f5⟩ := hf it (by simp)
    have hT : z.TypeIs (.ref e) "enumerate" := ⟨_, he, rfl⟩
    unfold pyNext
    refine wpAny_bind (wpAny_attempt (wpAny_callSpecial?_slot (name := Str.ofString "__next__") hT F.slot_enumerate_next (wpAny_call_entry F.slot_enumerate_next hT F.entry_enumerate_next ?_ (F.args_enumerate_next_1 _))))
    show wpAny _ _ (field (.ref e) 2 >>= _) _ _ _
    refine wpAny_bind (wpAny_field he rfl (x := .ref it) rfl ?_)
    refine wpAny_bind (wpAny_nextOf_tuple_end (I.ok.hd hc) hit tp (by
      have hl := rv.length
      simp
      omega) fun g x eb hx' => ?_)
    obtain ⟨o, ho, hcl⟩ := hx'
    refine wpAny_bind (wpAny_isInstance (T := "StopIteration") (b := true) ⟨o, ho, hcl⟩ isSubtype_stop ?_)
    exact wpAny_pure ⟨rfl, I.turned (t' := z.toks) (fun b o hb q => eb b o hb q) f0 f1 f3 f4 f5⟩
  self := fun _ _ _ _ _ y q => y.1.elim fun _ he => wpAny_pyIter_enum he q
def iEnumT (K : PySem.W.Frag) (ta : TA) : TI := fun σ H R => ta σ H fun vs H1 => ∃ a xs, vs = [.ref a] ∧ SqT K H1 a xs ∧ R (ItU K a) H1
theorem pi_enumT {X : Cx} {e : Expr} {ta : TA} {p pos tpos : Pos} {elts : List Expr} {kk : Nat} (hg : Gl X "enumerate") (hm : X.mg "enumerate" = none) (ha : PA X [e] ta) (hs : starEach [e] X.env = [(false, eval e X.env)] := by rfl) :
    PI X (.Tuple elts kk tpos) (.Call (.Name "enumerate" p) [e] [] pos) (iEnumT X.K ta) := by
  refine ⟨fun pins z σ H R I h => ?_⟩
  refine Call_ (ld_blt I hg hm boot_enumerate (PyProof.Rows.callWith_type1 (thn (ha.run pos pins z σ H _ I h) fun us z1 ⟨vs, H1, I1, r1, q1⟩ => ?_) hs rfl))
  obtain ⟨a, xs, ex, hq, q⟩ := q1
  subst ex
  cases r1 with
  | cons r rr =>
    cases rr
    cases r
    obtain ⟨its, rv, tp, _⟩ := I1.tuple hq
    refine callU (begins_tuple a its.toArray) tp fun g he hit hk => wpAny_pyIter_enum he ?_
    have I2 : Inv X pins σ H1 { z1 with heap := g } := I1.kept (t' := z1.toks) hk
    refine ⟨z1.heap.objs.size + 1, [z1.heap.objs.size + 1, z1.heap.objs.size], _, _, H1, rfl, I2, turnU a (z1.heap.objs.size + 1) z1.heap.objs.size, ⟨⟨.none, he⟩, ⟨_, hit, rfl, rfl⟩, Nat.succ_ne_self _⟩, fun b hb => ?_, q⟩
    have lb : z1.heap.objs.size ≤ b := by
      rcases (show b = z1.heap.objs.size + 1 ∨ b = z1.heap.objs.size by simpa using hb) with m | m
      · rw [m]; exact Nat.le_add_right _ _
      · rw [m]; exact Nat.le_refl _
    exact I1.fpOk lb (I1.hok.fresh lb)
theorem walk_enumT {K : PySem.W.Frag} {a : Addr} {xs : List V} : Walk (ItU K a) xs.length (fun H => SqT K H a xs) (YPair (fun i => some (.int (i : Nat))) (fun i => xs[i]?)) := by
  refine ⟨fun i _ hi q => ⟨xs, xs[i], q, by simp [hi]⟩, fun _ q => ⟨xs, q, Nat.le_refl _⟩, fun i H v G _ q y => ?_⟩
  obtain ⟨T, x, h1, h2, h3, h4⟩ := y
  exact ⟨T, .int (i : Nat), x, h1, h2, h3, rfl, h4 xs q⟩
/-! ### a staticmethod called off its class -/
structure SMet (K : PySem.W.Frag) (C : Addr) (mc : Value) (m : Str) (p g : Addr) : Prop where
  rd : PySem.W.readsIn K C mc = true
  ga : PySem.W.specialIn K (.ref C) "__getattribute__" = some (some (.builtin "type.__getattribute__"))
  at_ : PySem.W.findCls K (.ref C) mc m = some (.get (.builtin "staticmethod.__get__") (.ref p) .none (.ref C))
  rc : ∃ rest, PySem.W.recIn K p "staticmethod" = some (.ref g :: rest)
  kp : PySem.W.keepIn K (.ref g) = true
def tSMeth (C : Addr) (sp : Sp) (E : XK) (ta : TE) (t : TA) : TE := fun σ H Q => ta σ H fun x H1 => x = .ref C ∧ t σ H1 fun vs H2 => sp vs H2 Q E
theorem pe_smeth {X : Cx} {CX : CXT} {k : Nat} {C p g : Addr} {mc : Value} {fd : FuncData} {ps : List Str} {sp : Sp} {E : XK} {o e : Expr} {es : List Expr} {m : Str} {pos apos : Pos} {ta : TE} {t : TA} {pl : Sem Bool}
    (he : PE X o ta) (c : SMet X.K C mc m p g) (F : FnOk X.prog X.w X.K X.mg X.base CX k g fd ps sp) (hr : Room k X.A) (hb : Binds X.K fd ps []) (hx : Passes CX X E) (ha : PA X (e :: es) t)
    (hst : starEach (e :: es) X.env = (false, eval e X.env) :: starEach es X.env := by rfl) (hpl : (backTo pos (starEach es X.env)).any (·.1) = false := by rfl)
    (ht : eval (.Call (.Attribute o m apos) (e :: es) [] pos) X.env = (do let ov ← eval o X.env; standAt apos.atName; let (f, first) ← holding [ov] (getMethod ov m pl); callWith pos f first (backTo pos (starEach (e :: es) X.env)) (backToKw pos (keywordEach [] X.env))) := by rfl) :
    PE X (.Call (.Attribute o m apos) (e :: es) [] pos) (tSMeth C sp E ta t) := by
  refine ⟨fun pins z σ H Q I h => PySem.W.methodCall_KW (pl := pl) (thn (he.run pins z σ H _ I h) fun u z1 ⟨x, H1, I1, rx, ex, q⟩ => ?_) ht⟩
  subst ex
  obtain rfl : u = Value.ref C := rx
  obtain ⟨rest, hp⟩ := c.rc
  refine PySem.W.method_cls I1.kIn c.ga (PySem.W.cls_bind I1.kIn c.rd c.at_ (wpAny_call (PySem.W.sm_get (s := { z1 with toks := z1.toks + 1 }) I1.kIn hp (PySem.W.handed_on rfl ?_))))
  have I2 : Inv X pins σ H1 { z1 with toks := z1.toks + 1 } := I1.tok _
  refine PySem.W.callWith_K (first := []) (h₀ := X.base) I.ok.mod.kin c.kp (thn (ha.run pos pins _ σ H1 _ I2 q) fun us z2 ⟨vs, H2, I3, r, q2⟩ => ⟨I3.kIn, ?_⟩) hst hpl
  exact run_fn (us := us) (vs := vs) (dvs := []) (ds := []) F hr hb .nil hx I3 r (by rw [List.append_nil]; exact q2)
/-! ### a list or a tuple -/
def Sq (K : PySem.W.Frag) (H : Hp) (a : Addr) (xs : List V) : Prop := SqL K H a xs ∨ SqT K H a xs
theorem Same.sqt {K : PySem.W.Frag} {H H' : Hp} {a : Addr} {xs : List V} (e : Same H H') (h : SqT K H a xs) : SqT K H' a xs := by
  rcases h with (h | ⟨o, h⟩) | h
  · exact .inl (.inl (e _ _ h))
  · exact .inl (.inr ⟨o, e _ _ h⟩)
  · exact .inr h
theorem Same.sq {K : PySem.W.Frag} {H H' : Hp} {a : Addr} {xs : List V} (e : Same H H') (h : Sq K H a xs) : Sq K H' a xs := h.elim (fun z => .inl (e.seq z)) fun z => .inr (Same.sqt e z)
def iEnumA (K : PySem.W.Frag) (ta : TA) : TI := fun σ H R => ta σ H fun vs H1 => ∃ a xs, vs = [.ref a] ∧ ((SqL K H1 a xs ∧ R (Ite K a) H1) ∨ (SqT K H1 a xs ∧ R (ItU K a) H1))
theorem pi_enumA {X : Cx} {e : Expr} {ta : TA} {p pos tpos : Pos} {elts : List Expr} {kk : Nat} (hg : Gl X "enumerate") (hm : X.mg "enumerate" = none) (ha : PA X [e] ta) (hs : starEach [e] X.env = [(false, eval e X.env)] := by rfl) :
    PI X (.Tuple elts kk tpos) (.Call (.Name "enumerate" p) [e] [] pos) (iEnumA X.K ta) := by
  refine ⟨fun pins z σ H R I h => ?_⟩
  refine Call_ (ld_blt I hg hm boot_enumerate (PyProof.Rows.callWith_type1 (thn (ha.run pos pins z σ H _ I h) fun us z1 ⟨vs, H1, I1, r1, q1⟩ => ?_) hs rfl))
  obtain ⟨a, xs, ex, hq⟩ := q1
  subst ex
  cases r1 with
  | cons r rr =>
    cases rr
    cases r
    have fp : ∀ b ∈ [z1.heap.objs.size + 1, z1.heap.objs.size], FpOk X pins H1 b := fun b hb => by
      have lb : z1.heap.objs.size ≤ b := by
        rcases (show b = z1.heap.objs.size + 1 ∨ b = z1.heap.objs.size by simpa using hb) with m | m
        · rw [m]; exact Nat.le_add_right _ _
        · rw [m]; exact Nat.le_refl _
      exact I1.fpOk lb (I1.hok.fresh lb)
    rcases hq with ⟨hq, q⟩ | ⟨hq, q⟩
    · obtain ⟨its, rv, tp, _⟩ := I1.list hq
      refine callU (begins_list a its.toArray) tp.isList fun g he hit hk => wpAny_pyIter_enum he ?_
      have I2 : Inv X pins σ H1 { z1 with heap := g } := I1.kept (t' := z1.toks) hk
      exact ⟨z1.heap.objs.size + 1, [z1.heap.objs.size + 1, z1.heap.objs.size], _, _, H1, rfl, I2, turn_enum a (z1.heap.objs.size + 1) z1.heap.objs.size, ⟨⟨.none, he⟩, ⟨_, hit, rfl, rfl⟩, Nat.succ_ne_self _⟩, fp, q⟩
    · obtain ⟨its, rv, tp, _⟩ := I1.tuple hq
      refine callU (begins_tuple a its.toArray) tp fun g he hit hk => wpAny_pyIter_enum he ?_
      have I2 : Inv X pins σ H1 { z1 with heap := g } := I1.kept (t' := z1.toks) hk
      exact ⟨z1.heap.objs.size + 1, [z1.heap.objs.size + 1, z1.heap.objs.size], _, _, H1, rfl, I2, turnU a (z1.heap.objs.size + 1) z1.heap.objs.size, ⟨⟨.none, he⟩, ⟨_, hit, rfl, rfl⟩, Nat.succ_ne_self _⟩, fp, q⟩
def rSlB (K : PySem.W.Frag) : V → Option Int → Option Int → Hp → VK → Prop := fun x lo hi H Q => rSlL K x lo hi H Q ∨ rSlA K x lo hi H Q
theorem sl_any {X : Cx} : SlR X (rSlB X.K) := by
  intro pins z σ H x v vl vu lo hi sl Q I rx hs pl pu h
  rcases h with h | h
  · exact sl_list pins z σ H x v vl vu lo hi sl Q I rx hs pl pu h
  · exact sl_tupA pins z σ H x v vl vu lo hi sl Q I rx hs pl pu h
/-- what a slice hands on, in both cases: a list or tuple of the part -/
theorem cut_any {K : PySem.W.Frag} {a : Addr} {xs : List V} {lo hi : Option Int} {H : Hp} {Q : VK} (h : Sq K H a xs) (q : ∀ p H', Same H H' → Sq K H' p (cutV xs lo hi) → (∀ b, H b ≠ none → H' b = H b) → Q (.ref p) H') : rSlB K (.ref a) lo hi H Q := by
  rcases h with h | h
  · exact .inl ⟨a, xs, rfl, h, fun p np => q p _ (same_upd np) (.inl (sq upd_same)) fun b hb => upd_ne fun e => hb (e ▸ np)⟩
  · refine .inr ⟨a, xs, rfl, h, fun ⟨e1, e2⟩ => q a H (Same.refl H) (.inr ?_) fun _ _ => rfl, fun _ p np => q p _ (same_upd np) (.inr (st upd_same)) fun b hb => upd_ne fun e => hb (e ▸ np)⟩
    unfold cutV
    rw [e1, e2, List.drop_zero, Nat.sub_zero, List.take_length]
    exact h
/-- x in xs -/
theorem inV_str (x : Str) (xs : List Str) : inV (.str x) (xs.map V.str) = decide (x ∈ xs) := by
  unfold inV
  induction xs with
  | nil => rfl
  | cons y r ih =>
    rw [List.map_cons, List.any_cons, ih]
    show (y == x || decide (x ∈ r)) = decide (x ∈ y :: r)
    by_cases e : y = x
    · subst e
      simp
    · have e2 : ¬ x = y := fun z => e z.symm
      simp [e, e2]
theorem flat_strs (xs : List Str) : (xs.map V.str).all flatV = true := by
  rw [List.all_eq_true]
  intro v hv
  obtain ⟨z, _, rfl⟩ := List.mem_map.mp hv
  rfl
/-! ### a for over a list or a tuple -/
def iSeqA (K : PySem.W.Frag) (tl : TE) : TI := fun σ H R => tl σ H fun x H1 => ∃ a xs, x = .ref a ∧ ((SqL K H1 a xs ∧ R (Itl K a) H1) ∨ (SqT K H1 a xs ∧ R (Itt K a) H1))
theorem pi_seqA {X : Cx} {tg l : Expr} {tl : TE} (hl : PE X l tl) : PI X tg l (iSeqA X.K tl) := by
  refine ⟨fun pins z σ H R I h => thn (hl.run pins z σ H _ I h) fun v z1 ⟨x, H1, I1, r1, q1⟩ => ?_⟩
  obtain ⟨a, xs, ex, hq⟩ := q1
  subst ex
  cases r1
  have fp : ∀ b ∈ [z1.heap.objs.size], FpOk X pins H1 b := fun b hb => by
    rw [List.mem_singleton.mp hb]
    exact I1.fpOk (Nat.le_refl _) (I1.hok.fresh (Nat.le_refl _))
  rcases hq with ⟨hq, q⟩ | ⟨hq, q⟩
  · obtain ⟨its, rv, tp, _⟩ := I1.list hq
    exact wpAny_pyIter_list tp.isList ⟨z1.heap.objs.size, [z1.heap.objs.size], _, _, H1, rfl, I1.kept (t' := z1.toks) fun b o e => Heap.get?_push_of_some _ e, turn_list a _, ⟨_, Heap.get?_push_size _ rfl, rfl, rfl⟩, fp, q⟩
  · obtain ⟨its, rv, tp, _⟩ := I1.tuple hq
    exact wpAny_pyIter_tuple (show z1.heap.IsTuple a its.toArray from tp) ⟨z1.heap.objs.size, [z1.heap.objs.size], _, _, H1, rfl, I1.kept (t' := z1.toks) fun b o e => Heap.get?_push_of_some _ e, turn_tuple a _, ⟨_, Heap.get?_push_size _ rfl, rfl, rfl⟩, fp, q⟩
/-! ### rows: tuples in a list or tuple -/
def Rows (K : PySem.W.Frag) (H : Hp) : List V → List (List V) → Prop
  | [], [] => True
  | v :: xs, r :: rs => (∃ t, v = .ref t ∧ SqT K H t r) ∧ Rows K H xs rs
  | _, _ => False
section
variable {K : PySem.W.Frag} {H H' : Hp}
theorem Rows.mono (s : Same H H') : ∀ {xs : List V} {rs : List (List V)}, Rows K H xs rs → Rows K H' xs rs
  | [], [], _ => True.intro
  | _ :: _, _ :: _, ⟨⟨t, e, h⟩, r⟩ => ⟨⟨t, e, Same.sqt s h⟩, r.mono s⟩
theorem Rows.len : ∀ {xs : List V} {rs : List (List V)}, Rows K H xs rs → xs.length = rs.length
  | [], [], _ => rfl
  | _ :: _, _ :: _, ⟨_, r⟩ => congrArg (· + 1) r.len
theorem Rows.snoc {t : Addr} {w : List V} (h : SqT K H t w) : ∀ {xs : List V} {rs : List (List V)}, Rows K H xs rs → Rows K H (xs ++ [.ref t]) (rs ++ [w])
  | [], [], _ => ⟨⟨t, rfl, h⟩, True.intro⟩
  | _ :: _, _ :: _, ⟨e, r⟩ => ⟨e, r.snoc h⟩
theorem Rows.app : ∀ {xs ys : List V} {rs ss : List (List V)}, Rows K H xs rs → Rows K H ys ss → Rows K H (xs ++ ys) (rs ++ ss)
  | [], _, [], _, _, h => h
  | _ :: _, _, _ :: _, _, ⟨e, r⟩, h => ⟨e, r.app h⟩
theorem Rows.at : ∀ {xs : List V} {rs : List (List V)} {i : Nat} {v : V}, Rows K H xs rs → xs[i]? = some v → ∃ t r, v = .ref t ∧ SqT K H t r ∧ rs[i]? = some r
  | [], [], _, _, _, h => by simp at h
  | _ :: _, r :: _, 0, _, ⟨⟨t, e, h⟩, _⟩, hi => ⟨t, r, by rw [← Option.some.inj hi]; exact e, h, rfl⟩
  | _ :: _, _ :: _, i + 1, _, ⟨_, r⟩, hi => Rows.at (i := i) r hi
theorem Rows.take : ∀ {xs : List V} {rs : List (List V)} (i : Nat), Rows K H xs rs → Rows K H (xs.take i) (rs.take i)
  | [], [], i, _ => by simp [Rows]
  | _ :: _, _ :: _, 0, _ => True.intro
  | _ :: _, _ :: _, i + 1, ⟨e, r⟩ => ⟨e, r.take i⟩
theorem Rows.drop : ∀ {xs : List V} {rs : List (List V)} (i : Nat), Rows K H xs rs → Rows K H (xs.drop i) (rs.drop i)
  | [], [], i, _ => by simp [Rows]
  | _ :: _, _ :: _, 0, h => h
  | _ :: _, _ :: _, i + 1, ⟨_, r⟩ => r.drop i
end
/-! ### boards: the data -/
structure Sp3 where (nm one oth : Str)
def Sp3.row (r : Sp3) : List V := [.str r.nm, .str r.one, .str r.oth]
structure Ct where (one oth : Str) (mv : Option Str) (whn way : Str)
def mvV : Option Str → V
  | none => .non
  | some m => .str m
def Ct.row (c : Ct) : List V := [.str c.one, .str c.oth, mvV c.mv, .str c.whn, .str c.way]
structure Bd where (nodes switches : List Str) (relays lamps : List Sp3) (contacts : List Ct)
def Bd.movers (b : Bd) : List Str := b.switches ++ b.relays.map (·.nm)
def isNm (z : Str) : Bool := decide (1 ≤ z.length) && (decide (z.length ≤ 12) && z.cps.toList.all fun c => decide (c ∈ alph))
theorem isNm_iff {z : Str} : isNm z = true ↔ Nm z := by
  unfold isNm Nm Al
  simp only [Bool.and_eq_true, decide_eq_true_eq, List.all_eq_true]
def areNm (zs : List Str) (lo hi : Nat) : Bool := zs.all isNm && (decide zs.Nodup && (decide (lo ≤ zs.length) && decide (zs.length ≤ hi)))
def spanB (nodes : List Str) (r : Sp3) : Bool := isNm r.nm && (decide (r.one ∈ nodes) && (decide (r.oth ∈ nodes) && !decide (r.one = r.oth)))
def makeS : Str := "make"
def breakS : Str := "break"
def bothS : Str := "both"
def forwardS : Str := "forward"
def ctB (nodes movers : List Str) (c : Ct) : Bool := decide (c.one ∈ nodes) && (decide (c.oth ∈ nodes) && (!decide (c.one = c.oth) && ((match c.mv with
  | none => decide (c.whn = makeS)
  | some m => decide (m ∈ movers) && decide (c.whn ∈ [makeS, breakS])) && decide (c.way ∈ [bothS, forwardS]))))
/-- a board that may be -/
structure Bd.Ok (b : Bd) : Prop where
  nodes : areNm b.nodes 2 16 = true
  sw : b.switches.length ≤ 6
  rl : b.relays.length ≤ 8
  mv : areNm b.movers 0 b.movers.length = true
  lp : areNm (b.lamps.map (·.nm)) 1 8 = true
  spR : ∀ r ∈ b.relays, spanB b.nodes r = true
  spL : ∀ r ∈ b.lamps, spanB b.nodes r = true
  ct : b.contacts.length ≤ 40
  cts : ∀ c ∈ b.contacts, ctB b.nodes b.movers c = true
theorem areNm_names {zs : List Str} {lo hi : Nat} (h : areNm zs lo hi = true) : (∀ z ∈ zs, Nm z) ∧ zs.Nodup ∧ lo ≤ zs.length ∧ zs.length ≤ hi := by
  unfold areNm at h
  simp only [Bool.and_eq_true, decide_eq_true_eq, List.all_eq_true] at h
  exact ⟨fun z hz => isNm_iff.mp (h.1 z hz), h.2.1, h.2.2.1, h.2.2.2⟩
/-- what the top holds of the class and of the constants about it -/
structure BTxt (K : PySem.W.Frag) (mg : Str → Option Value) (C : Addr) (mc : Value) (sp : Addr) (sg : Addr) : Prop where
  cl : Cls K C
  nN : NoAttr K C "nodes"
  nS : NoAttr K C "switches"
  nR : NoAttr K C "relays"
  nL : NoAttr K C "lamps"
  nC : NoAttr K C "contacts"
  nM : NoAttr K C "_movers"
  mgB : mg "Board" = some (.ref C)
  gI : mg "is_good_name" = some (.ref sg)
  cr : ClX.CRead K C mc
  c1 : ∃ t, PySem.W.findCls K (.ref C) mc "MOST_NODES" = some (.val (.int 16 t))
  c2 : ∃ t, PySem.W.findCls K (.ref C) mc "MOST_SWITCHES" = some (.val (.int 6 t))
  c3 : ∃ t, PySem.W.findCls K (.ref C) mc "MOST_RELAYS" = some (.val (.int 8 t))
  c4 : ∃ t, PySem.W.findCls K (.ref C) mc "MOST_LAMPS" = some (.val (.int 8 t))
  c5 : ∃ t, PySem.W.findCls K (.ref C) mc "MOST_CONTACTS" = some (.val (.int 40 t))
  g1 : ∃ t, mg "LONGEST_NAME" = some (.int 12 t)
  g2 : ∃ t, mg "LEAST_NODES" = some (.int 2 t)
  g3 : ∃ t, mg "LEAST_LAMPS" = some (.int 1 t)
  g4 : ∃ t, mg "CHARACTERS" = some (.str "abcdefghijklmnopqrstuvwxyz0123456789" t)
  g5 : ∃ a, mg "WHENS" = some (.ref a) ∧ ∀ H, SqT K H a ([makeS, breakS].map V.str)
  g6 : ∃ a, mg "WAYS" = some (.ref a) ∧ ∀ H, SqT K H a ([bothS, forwardS].map V.str)
  len : mg "len" = none
  all : mg "all" = none
  tup : mg "tuple" = none
  enu : mg "enumerate" = none
section
variable {P : Program} {w : World} {K : PySem.W.Frag} {mg : Str → Option Value} {base : Heap}
/-! ### is_good_name -/
def spIsName : Sp := fun vs H Q _ => ∃ z : Str, vs = [.str z] ∧ z.length ≤ 1000000 ∧ ∀ H', Same H H' → Q (.bl (isNm z)) H'
theorem scIsName : FnScope ["text", "letter"] ["text"] (defScope sIsGoodName) := ⟨rfl, rfl, rfl, by decide +kernel, rfl, by decide +kernel, by decide +kernel⟩
theorem ok_isName {f C sp sg : Addr} {mc : Value} {fd : FuncData} {k : Nat} (F : Fun K "is_good_name" "is_good_name" sIsGoodName f fd) (T : BTxt K mg C mc sp sg) : FnOk P w K mg base CX0 (k + 1) f fd ["text"] spIsName := by
  obtain ⟨t1, g1⟩ := T.g1
  obtain ⟨t4, g4⟩ := T.g4
  refine F.ok scIsName (fun vs H Q E h => ?_) (fun cdv A outer s H vs Q E hr h => ?_)
  · obtain ⟨z, rfl, _⟩ := h
    rfl
  · obtain ⟨z, rfl, hz, q⟩ := h
    refine ⟨_, pss_one (ps_ret (pe_and (pe_chain op_le op_le pe_int (pe_callB call_len_str (by rfl) T.len PySem.boot_len (pa_cons (pv 0) pa_nil)) (pe_glob (v := .int 12) rfl g1 ⟨_, rfl⟩))
      (pe_one (pe_callB (cr_all rfl) (by rfl) T.all (by decide +kernel) (pa_cons (pe_lc (own := [("letter", 1)]) (g := gName 1) (tt := tYes) rfl scIsName.nd (pi_str (pv 0)) (blkOk_by (N := ["text", "letter"]) (sc := defScope sIsGoodName) (by decide +kernel)) (fun _ _ _ _ _ => pg_name (i := 1) scIsName.nd rfl (Or.inl rfl)) (fun _ _ _ _ _ => pts_nil)
        (fun _ _ _ _ _ => pe_cmpR op_in_sign (pv 1) (pe_glob (v := .str "abcdefghijklmnopqrstuvwxyz0123456789") rfl g4 ⟨_, rfl⟩) (by rfl))) pa_nil))))), ?_⟩
    refine ⟨_, rfl, z, rfl, szl hz, _, _, rfl, rfl, _, rfl, ?_⟩
    refine ite2 (fun h1 => ?_) (fun h1 => ?_)
    · have h1' : 1 ≤ z.length := by
        have := of_decide_eq_true h1
        omega
      refine ⟨_, _, rfl, rfl, _, rfl, ?_⟩
      refine ite2 (fun h2 => ?_) (fun h2 => ?_)
      · have h2' : z.length ≤ 12 := by
          have := of_decide_eq_true h2
          omega
        refine ⟨_, rfl, _, rfl, fun D hD => ?_⟩
        refine lc_it walk_str (fun i H2 => Same H H2 ∧ H2 D = some (.lst (((z.cps.toList.take i).map fun c => decide (c ∈ alph)).map V.bl)))
          ⟨same_upd hD, upd_same⟩ (fun _ _ _ _ => True.intro) ?_ ?_
        · rintro i x H2 H3 hi ⟨sm, hd⟩ ⟨rfl, c, hc, rfl⟩
          have hc' : z.cps.toList[i]? = some c := by
            rw [Array.getElem?_toList]
            exact hc
          refine ⟨rfl, ?_⟩
          refine yesT ?_
          refine ⟨_, rfl, c, _, rfl, rfl, _, hd, ?_, same_mut sm hD, ?_⟩
          · rw [List.length_map, List.length_map, List.length_take]
            exact szlt (by have := len_tl z; omega)
          · rw [upd_same, List.take_add_one, hc', Option.toList_some, map_snoc, map_snoc]
            rfl
        · rintro H2 ⟨sm, hd⟩
          refine ⟨D, _, rfl, sq hd, ?_⟩
          have e : (((z.cps.toList.take z.cps.size).map fun c => decide (c ∈ alph)).all id) = isNm z := by
            unfold isNm
            rw [show z.cps.size = z.cps.toList.length by simp, List.take_length, decide_eq_true h1', decide_eq_true h2', Bool.true_and, Bool.true_and, List.all_map]
            rfl
          rw [e]
          exact q H2 sm
      · have h2' : ¬ z.length ≤ 12 := by
          have := of_decide_eq_false (Bool.eq_false_iff.mpr h2)
          omega
        have e : isNm z = false := by
          unfold isNm
          rw [decide_eq_false h2', Bool.false_and, Bool.and_false]
        rw [← e]
        exact q H (Same.refl H)
    · have h1' : ¬ 1 ≤ z.length := by
        have := of_decide_eq_false (Bool.eq_false_iff.mpr h1)
        omega
      have e : isNm z = false := by
        unfold isNm
        rw [decide_eq_false h1', Bool.false_and]
      refine ⟨_, rfl, ?_⟩
      refine iteF ?_
      rw [← e]
      exact q H (Same.refl H)
/-! ### are_names -/
def spAreNames (K : PySem.W.Frag) : Sp := fun vs H Q _ => ∃ (a : Addr) (zs : List Str) (lo hi : Nat), vs = [.ref a, .int lo, .int hi] ∧ Sq K H a (zs.map V.str) ∧ (∀ z ∈ zs, z.length ≤ 1000000) ∧ zs.length ≤ 1000 ∧ ∀ H', Same H H' → Q (.bl (areNm zs lo hi)) H'
theorem scAreNames : FnScope ["names", "least", "most", "number", "name"] ["names", "least", "most"] (defScope sAreNames) := ⟨rfl, rfl, rfl, by decide +kernel, rfl, by decide +kernel, by decide +kernel⟩
theorem areNm_bad {zs : List Str} {lo hi i : Nat} {z : Str} (hz : zs[i]? = some z) (h : isNm z = false ∨ z ∈ zs.take i) : areNm zs lo hi = false := by
  rw [← Bool.not_eq_true]
  intro e
  unfold areNm at e
  simp only [Bool.and_eq_true, decide_eq_true_eq, List.all_eq_true] at e
  have hm : z ∈ zs := List.mem_of_getElem? hz
  rcases h with h | h
  · rw [e.1 z hm] at h
    cases h
  · obtain ⟨j, hj⟩ := List.mem_iff_getElem?.mp h
    have hjl : j < (zs.take i).length := (List.getElem?_eq_some_iff.mp hj).1
    rw [List.length_take] at hjl
    rw [List.getElem?_take_of_lt (by omega)] at hj
    have := nd_ix e.2.1 hz hj
    omega
theorem areNm_good {zs : List Str} {lo hi : Nat} (h : ∀ i z, zs[i]? = some z → isNm z = true ∧ z ∉ zs.take i) : areNm zs lo hi = (decide (lo ≤ zs.length) && decide (zs.length ≤ hi)) := by
  have e1 : zs.all isNm = true := by
    rw [List.all_eq_true]
    intro z hz
    obtain ⟨i, hi⟩ := List.mem_iff_getElem?.mp hz
    exact (h i z hi).1
  have e2 : zs.Nodup := by
    refine List.pairwise_iff_getElem.mpr fun i j hi hj hij e => ?_
    refine (h j _ (List.getElem?_eq_getElem hj)).2 (List.mem_iff_getElem?.mpr ⟨i, ?_⟩)
    rw [List.getElem?_take_of_lt hij, List.getElem?_eq_getElem hi, e]
  unfold areNm
  rw [e1, decide_eq_true e2, Bool.true_and, Bool.true_and]
theorem ok_areNames {f fI C sp sg : Addr} {mc : Value} {fd fdI : FuncData} {k : Nat} (F : Fun K "are_names" "are_names" sAreNames f fd) (T : BTxt K mg C mc sp sg) (FI : Fun K "is_good_name" "is_good_name" sIsGoodName sg fdI) (bI : Binds K fdI ["text"] []) :
    FnOk P w K mg base CX0 (k + 2) f fd ["names", "least", "most"] (spAreNames K) := by
  have GI : FnOk P w K mg base CX0 (k + 1) sg fdI ["text"] spIsName := ok_isName FI T
  refine F.ok scAreNames (fun vs H Q E h => ?_) (fun cdv A outer s H vs Q E hr h => ?_)
  · obtain ⟨a, zs, lo, hi, rfl, _⟩ := h
    rfl
  · obtain ⟨a, zs, lo, hi, rfl, hq, hz, hl, q⟩ := h
    refine ⟨_, pss_cons (ps_for PassesOwn.never rfl (pi_enumA rfl T.enu (pa_cons (pv 0) pa_nil)) (pg_tup rfl (pgs_cons (pg_name (i := 3) scAreNames.nd rfl (.inl rfl)) (pgs_cons (pg_name (i := 4) scAreNames.nd rfl (.inl rfl)) pgs_nil)))
        (pss_one (ps_if (PW.pt (pw_or (pt_not (pt_val (pe_call GI hr (by rfl) T.gI FI.kp bI .nil pass0 (pa_cons (pv 4) pa_nil)))) (pw_or1 (pt_cmpR op_in_seq (pv 4) (pe_slice sl_any (pv 0) po_none (po_some (pv 3))) (by rfl)))))
          (pss_one (ps_ret pe_bl)) pss_nil)))
      (pss_one (ps_ret (pe_chain op_le op_le (pv 1) (pe_callB call_len_seq (by rfl) T.len PySem.boot_len (pa_cons (pv 0) pa_nil)) (pv 2)))), ?_⟩
    rcases hq with hq | hq
    all_goals
      first
      | refine ⟨_, rfl, a, zs.map V.str, rfl, .inl ⟨hq, for_it walk_enum (fun i σ H2 => ∃ z3 z4 : Option V, σ = [some (.ref a), some (.int lo), some (.int hi), z3, z4] ∧ Same H H2 ∧ ∀ j z, j < i → zs[j]? = some z → isNm z = true ∧ z ∉ zs.take j)
          ⟨none, none, rfl, Same.refl H, fun j z hj => absurd hj (Nat.not_lt_zero _)⟩ (fun _ _ _ _ ⟨_, _, _, sm, _⟩ => sm.seq hq) ?_ ?_⟩⟩
      | refine ⟨_, rfl, a, zs.map V.str, rfl, .inr ⟨hq, for_it walk_enumT (fun i σ H2 => ∃ z3 z4 : Option V, σ = [some (.ref a), some (.int lo), some (.int hi), z3, z4] ∧ Same H H2 ∧ ∀ j z, j < i → zs[j]? = some z → isNm z = true ∧ z ∉ zs.take j)
          ⟨none, none, rfl, Same.refl H, fun j z hj => absurd hj (Nat.not_lt_zero _)⟩ (fun _ _ _ _ ⟨_, _, _, sm, _⟩ => Same.sqt sm hq) ?_ ?_⟩⟩
      · rintro i v σ H2 H3 hi' ⟨z3, z4, rfl, sm, good⟩ ⟨t, x, y, rfl, nt, rfl, hx, hy⟩
        cases hx
        rw [List.length_map] at hi'
        have hzi : zs[i]? = some zs[i] := List.getElem?_eq_getElem hi'
        have ey : y = .str zs[i] := by
          have hy : (zs.map V.str)[i]? = some y := hy
          rw [List.getElem?_map, hzi] at hy
          exact (Option.some.inj hy).symm
        subst ey
        have s2 : Same H (upd H2 t (.tup [.int (i : Nat), .str zs[i]])) := sm.trans (same_upd nt)
        refine ⟨t, _, rfl, st upd_same, rfl, _, _, rfl, _, _, rfl, rfl, ?_⟩
        refine ⟨_, rfl, zs[i], rfl, hz _ (List.getElem_mem hi'), fun H4 s4 => ⟨_, rfl, ?_⟩⟩
        have s24 := s2.trans s4
        cases en : isNm zs[i] with
        | false =>
          refine iteT ?_
          refine iteT ?_
          have e := areNm_bad (lo := lo) (hi := hi) hzi (.inl en)
          rw [← e]
          exact q _ s24
        | true =>
          refine iteF ?_
          refine ⟨_, rfl, _, rfl, _, rfl, (i : Int), rfl, ?_⟩
          refine cut_any (by first | exact .inl (s24.seq hq) | exact .inr (Same.sqt s24 hq)) fun p H5 s5 hp _ => ?_
          have s25 := s24.trans s5
          rw [cut_list, ← List.map_take] at hp
          refine ⟨p, _, rfl, hp, rfl, flat_strs _, _, rfl, ?_⟩
          rw [if_neg Bool.false_ne_true, inV_str]
          refine ite2 (fun e => ?_) (fun e => ?_)
          · have e2 := areNm_bad (lo := lo) (hi := hi) hzi (.inr (of_decide_eq_true e))
            rw [← e2]
            exact q _ s25
          · refine ⟨_, _, rfl, s25, fun j z hj hzj => ?_⟩
            by_cases ej : j = i
            · subst ej
              rw [hzi] at hzj
              cases hzj
              exact ⟨en, of_decide_eq_false (Bool.eq_false_iff.mpr e)⟩
            · exact good j z (by omega) hzj
      · rintro σ H2 ⟨z3, z4, rfl, sm, good⟩
        rw [List.length_map] at good
        have e := areNm_good (lo := lo) (hi := hi) fun i z hi => good i z (List.getElem?_eq_some_iff.mp hi).1 hi
        refine ⟨_, rfl, _, rfl, a, _, rfl, (by first | exact .inl (sm.seq hq) | exact .inr (Same.sqt sm hq)), _, _, rfl, rfl, _, rfl, ?_⟩
        rw [List.length_map]
        refine ite2 (fun h1 => ?_) (fun h1 => ?_)
        · have h1' : lo ≤ zs.length := by
            have := of_decide_eq_true h1
            omega
          refine ⟨_, rfl, _, _, rfl, rfl, ?_⟩
          have e3 : areNm zs lo hi = decide ((zs.length : Int) ≤ (hi : Int)) := by
            rw [e, decide_eq_true h1', Bool.true_and]
            exact decide_eq_decide.mpr (by omega)
          show Q (V.bl (decide ((zs.length : Int) ≤ (hi : Int)))) _
          rw [← e3]
          exact q _ sm
        · have h1' : ¬ lo ≤ zs.length := by
            have := of_decide_eq_false (Bool.eq_false_iff.mpr h1)
            omega
          have e3 : areNm zs lo hi = false := by
            rw [e, decide_eq_false h1', Bool.false_and]
          rw [← e3]
          exact q _ sm
/-! ### is_span, is_contact -/
theorem dec_f {b : Bool} {A : Prop} [Decidable A] (h : ¬ A) : (decide A && b) = false := by rw [decide_eq_false h, Bool.false_and]
theorem ndt {c : Prop} [Decidable c] (h : (decide c) = true) : c := of_decide_eq_true h
theorem ndf {c : Prop} [Decidable c] (h : ¬ (decide c) = true) : ¬ c := of_decide_eq_false (Bool.eq_false_iff.mpr h)
def spIsSpan (K : PySem.W.Frag) : Sp := fun vs H Q _ => ∃ (t b : Addr) (r : Sp3) (ns : List Str), vs = [.ref t, .ref b] ∧ SqT K H t r.row ∧ Sq K H b (ns.map V.str) ∧ r.nm.length ≤ 1000000 ∧ ∀ H', Same H H' → Q (.bl (spanB ns r)) H'
theorem scIsSpan : FnScope ["part", "nodes", "name", "one", "other"] ["part", "nodes"] (defScope sIsSpan) := ⟨rfl, rfl, rfl, by decide +kernel, rfl, by decide +kernel, by decide +kernel⟩
theorem ok_isSpan {f C sp sg : Addr} {mc : Value} {fd fdI : FuncData} {k : Nat} (F : Fun K "is_span" "is_span" sIsSpan f fd) (T : BTxt K mg C mc sp sg) (FI : Fun K "is_good_name" "is_good_name" sIsGoodName sg fdI) (bI : Binds K fdI ["text"] []) :
    FnOk P w K mg base CX0 (k + 2) f fd ["part", "nodes"] (spIsSpan K) := by
  have GI : FnOk P w K mg base CX0 (k + 1) sg fdI ["text"] spIsName := ok_isName FI T
  refine F.ok scIsSpan (fun vs H Q E h => ?_) (fun cdv A outer s H vs Q E hr h => ?_)
  · obtain ⟨t, b, r, ns, rfl, _⟩ := h
    rfl
  · obtain ⟨t, b, r, ns, rfl, ht, hb, hl, q⟩ := h
    refine ⟨_, pss_cons (ps_if (pt_cmpR op_ne (pe_callB call_len_seq (by rfl) T.len PySem.boot_len (pa_cons (pv 0) pa_nil)) pe_int (nomark _)) (pss_one (ps_ret pe_bl)) pss_nil)
      (pss_cons (ps_asg (pv 0) (pg_tup rfl (pgs_cons (pg_name (i := 2) scIsSpan.nd rfl (.inl rfl)) (pgs_cons (pg_name (i := 3) scIsSpan.nd rfl (.inl rfl)) (pgs_cons (pg_name (i := 4) scIsSpan.nd rfl (.inl rfl)) pgs_nil)))))
      (pss_one (ps_ret (pe_and (pe_call GI hr (by rfl) T.gI FI.kp bI .nil pass0 (pa_cons (pv 2) pa_nil))
        (pe_and (pe_cmpR op_in_seq (pv 3) (pv 1) (by rfl)) (pe_and (pe_cmpR op_in_seq (pv 4) (pv 1) (by rfl)) (pe_one (pe_cmpR op_ne (pv 3) (pv 4) (nomark _))))))))), ?_⟩
    refine ⟨_, rfl, t, _, rfl, .inr ht, rfl, _, rfl, ?_⟩
    refine iteF ?_
    refine ⟨_, rfl, t, _, rfl, ht, rfl, _, _, rfl, _, _, rfl, _, _, rfl, rfl, ?_⟩
    refine ⟨_, rfl, r.nm, rfl, hl, fun H1 s1 => ⟨_, rfl, ?_⟩⟩
    have e0 : spanB ns r = (isNm r.nm && (decide (r.one ∈ ns) && (decide (r.oth ∈ ns) && !decide (r.one = r.oth)))) := rfl
    refine ite2 (fun h1 => ?_) (fun h1 => ?_)
    · rw [h1, Bool.true_and] at e0
      refine ⟨_, rfl, _, rfl, b, _, rfl, Same.sq s1 hb, rfl, flat_strs _, _, rfl, ?_⟩
      rw [if_neg Bool.false_ne_true, inV_str]
      refine ite2 (fun h2 => ?_) (fun h2 => ?_)
      · rw [h2, Bool.true_and] at e0
        refine ⟨_, rfl, _, rfl, b, _, rfl, Same.sq s1 hb, rfl, flat_strs _, _, rfl, ?_⟩
        rw [if_neg Bool.false_ne_true, inV_str]
        refine ite2 (fun h3 => ?_) (fun h3 => ?_)
        · rw [h3, Bool.true_and] at e0
          refine ⟨_, rfl, _, rfl, rfl, ?_⟩
          have e1 : (!decide (V.str r.one = V.str r.oth)) = spanB ns r := by
            rw [e0]
            congr 1
            exact decide_eq_decide.mpr ⟨V.str.inj, congrArg V.str⟩
          show Q (V.bl (!decide (V.str r.one = V.str r.oth))) _
          rw [e1]
          exact q _ s1
        · rw [Bool.eq_false_iff.mpr h3, Bool.false_and] at e0
          show Q (V.bl false) _
          rw [← e0]
          exact q _ s1
      · rw [Bool.eq_false_iff.mpr h2, Bool.false_and] at e0
        show Q (V.bl false) _
        rw [← e0]
        exact q _ s1
    · rw [Bool.eq_false_iff.mpr h1, Bool.false_and] at e0
      show Q (V.bl false) _
      rw [← e0]
      exact q _ s1
def spIsContact (K : PySem.W.Frag) : Sp := fun vs H Q _ => ∃ (t b m : Addr) (c : Ct) (ns ms : List Str), vs = [.ref t, .ref b, .ref m] ∧ SqT K H t c.row ∧ Sq K H b (ns.map V.str) ∧ Sq K H m (ms.map V.str) ∧ ∀ H', Same H H' → Q (.bl (ctB ns ms c)) H'
theorem scIsContact : FnScope ["part", "nodes", "movers", "one", "other", "mover", "when", "way"] ["part", "nodes", "movers"] (defScope sIsContact) := ⟨rfl, rfl, rfl, by decide +kernel, rfl, by decide +kernel, by decide +kernel⟩
theorem ok_isContact {f C sp sg : Addr} {mc : Value} {fd : FuncData} {k : Nat} (F : Fun K "is_contact" "is_contact" sIsContact f fd) (T : BTxt K mg C mc sp sg) : FnOk P w K mg base CX0 (k + 1) f fd ["part", "nodes", "movers"] (spIsContact K) := by
  obtain ⟨aW, g5, hW⟩ := T.g5
  obtain ⟨aY, g6, hY⟩ := T.g6
  refine F.ok scIsContact (fun vs H Q E h => ?_) (fun cdv A outer s H vs Q E hr h => ?_)
  · obtain ⟨t, b, m, c, ns, ms, rfl, _⟩ := h
    rfl
  · obtain ⟨t, b, m, c, ns, ms, rfl, ht, hb, hm, q⟩ := h
    refine ⟨_, pss_cons (ps_if (pt_cmpR op_ne (pe_callB call_len_seq (by rfl) T.len PySem.boot_len (pa_cons (pv 0) pa_nil)) pe_int (nomark _)) (pss_one (ps_ret pe_bl)) pss_nil)
      (pss_cons (ps_asg (pv 0) (pg_tup rfl (pgs_cons (pg_name (i := 3) scIsContact.nd rfl (.inl rfl)) (pgs_cons (pg_name (i := 4) scIsContact.nd rfl (.inl rfl)) (pgs_cons (pg_name (i := 5) scIsContact.nd rfl (.inl rfl)) (pgs_cons (pg_name (i := 6) scIsContact.nd rfl (.inl rfl)) (pgs_cons (pg_name (i := 7) scIsContact.nd rfl (.inl rfl)) pgs_nil)))))))
      (pss_cons (ps_if (PW.pt (pw_or (pt_cmpR op_notIn_seq (pv 3) (pv 1) (by rfl)) (pw_or (pt_cmpR op_notIn_seq (pv 4) (pv 1) (by rfl)) (pw_or1 (pt_cmpR op_eq (pv 3) (pv 4) (nomark _)))))) (pss_one (ps_ret pe_bl)) pss_nil)
      (pss_cons (ps_if (pt_cmpR op_isN (pv 5) pe_non (nomark _)) (pss_one (ps_ret (pe_and (pe_cmpR op_eq (pv 6) pe_str (nomark _)) (pe_one (pe_cmpR op_in_seq (pv 7) (pe_glob (v := .ref aY) rfl g6 rfl) (by rfl)))))) pss_nil)
      (pss_one (ps_ret (pe_and (pe_cmpR op_in_seq (pv 5) (pv 2) (by rfl)) (pe_and (pe_cmpR op_in_seq (pv 6) (pe_glob (v := .ref aW) rfl g5 rfl) (by rfl)) (pe_one (pe_cmpR op_in_seq (pv 7) (pe_glob (v := .ref aY) rfl g6 rfl) (by rfl)))))))))), ?_⟩
    refine ⟨_, rfl, t, _, rfl, .inr ht, rfl, _, rfl, ?_⟩
    refine iteF ?_
    refine ⟨_, rfl, t, _, rfl, ht, rfl, _, _, rfl, _, _, rfl, _, _, rfl, _, _, rfl, _, _, rfl, rfl, ?_⟩
    have q' := q H (Same.refl H)
    unfold ctB at q'
    refine ⟨_, rfl, _, rfl, b, _, rfl, hb, rfl, flat_strs _, _, rfl, ?_⟩
    rw [if_pos rfl, inV_str]
    by_cases h1 : c.one ∈ ns
    · rw [decide_eq_true h1] at q' ⊢
      refine iteF ?_
      refine ⟨_, rfl, _, rfl, b, _, rfl, hb, rfl, flat_strs _, _, rfl, ?_⟩
      rw [if_pos rfl, inV_str]
      by_cases h2 : c.oth ∈ ns
      · rw [decide_eq_true h2] at q' ⊢
        refine iteF ?_
        refine ⟨_, rfl, _, rfl, rfl, _, rfl, ?_⟩
        by_cases h3 : c.one = c.oth
        · rw [decide_eq_true (congrArg V.str h3)]
          rw [decide_eq_true h3] at q'
          refine iteT ?_
          exact q'
        · rw [decide_eq_false (fun z => h3 (V.str.inj z))]
          rw [decide_eq_false h3] at q'
          refine iteF ?_
          refine ⟨_, rfl, rfl, _, rfl, ?_⟩
          cases em : c.mv with
          | none =>
            rw [em] at q'
            have e1 : decide (mvV none = V.non) = true := rfl
            rw [e1]
            refine iteT ?_
            refine ⟨_, rfl, rfl, _, rfl, ?_⟩
            by_cases h4 : c.whn = makeS
            · rw [decide_eq_true h4] at q'
              rw [show decide (V.str c.whn = V.str "make") = true from decide_eq_true (congrArg V.str h4)]
              refine iteT ?_
              refine ⟨_, rfl, aY, _, rfl, .inr (hY _), rfl, flat_strs _, ?_⟩
              rw [if_neg Bool.false_ne_true, inV_str]
              exact q'
            · rw [decide_eq_false h4] at q'
              rw [show decide (V.str c.whn = V.str "make") = false from decide_eq_false fun z => h4 (V.str.inj z)]
              refine iteF ?_
              exact q'
          | some mo =>
            rw [em] at q'
            dsimp only at q'
            have e1 : decide (mvV (some mo) = V.non) = false := decide_eq_false fun z => by cases z
            rw [e1]
            refine iteF ?_
            refine ⟨_, rfl, _, rfl, m, _, rfl, hm, rfl, flat_strs _, _, rfl, ?_⟩
            rw [if_neg Bool.false_ne_true]
            show if inV (V.str mo) (ms.map V.str) = true then _ else _
            rw [inV_str]
            by_cases h4 : mo ∈ ms
            · rw [decide_eq_true h4] at q' ⊢
              refine iteT ?_
              refine ⟨_, rfl, aW, _, rfl, .inr (hW _), rfl, flat_strs _, _, rfl, ?_⟩
              rw [if_neg Bool.false_ne_true, inV_str]
              by_cases h5 : c.whn ∈ [makeS, breakS]
              · rw [decide_eq_true h5] at q' ⊢
                refine iteT ?_
                refine ⟨_, rfl, aY, _, rfl, .inr (hY _), rfl, flat_strs _, ?_⟩
                rw [if_neg Bool.false_ne_true, inV_str]
                exact q'
              · rw [decide_eq_false h5] at q' ⊢
                refine iteF ?_
                exact q'
            · rw [decide_eq_false h4] at q' ⊢
              refine iteF ?_
              exact q'
      · rw [decide_eq_false h2] at q' ⊢
        refine iteT ?_
        refine iteT ?_
        exact q'
    · rw [decide_eq_false h1] at q' ⊢
      refine iteT ?_
      refine iteT ?_
      exact q'
/-! ### the fields of a board -/
theorem putF_len (f : Str) (v : V) : ∀ fs : List (Str × V), (putF f v fs).length ≤ fs.length + 1
  | [] => Nat.le_refl _
  | (g, x) :: r => by
    show (if g = f then (g, v) :: r else (g, x) :: putF f v r).length ≤ r.length + 1 + 1
    split
    · exact Nat.le_succ _
    · exact Nat.succ_le_succ (putF_len f v r)
theorem cat_any {K : PySem.W.Frag} {a b : Addr} {xs ys : List V} {H : Hp} {Q : VK} (h1 : SqT K H a xs) (h2 : SqT K H b ys) (hl : xs.length + ys.length ≤ 1000000) (q : ∀ p H', Same H H' → SqT K H' p (xs ++ ys) → Q (.ref p) H') : rCatA K (.ref a) (.ref b) H Q := by
  refine ⟨a, b, xs, ys, rfl, rfl, h1, h2, szl hl, fun e => q b H (Same.refl H) (by rw [e]; exact h2), fun _ e => q a H (Same.refl H) (by rw [e, List.append_nil]; exact h1), fun _ _ p np => q p _ (same_upd np) (st upd_same)⟩
structure Fl (K : PySem.W.Frag) (H : Hp) (fs : List (Str × V)) (b : Bd) (tn ts tr tl tc : Addr) (xr xl xc : List V) : Prop where
  ln : fs.lookup ("nodes" : Str) = some (.ref tn)
  ls : fs.lookup ("switches" : Str) = some (.ref ts)
  lr : fs.lookup ("relays" : Str) = some (.ref tr)
  ll : fs.lookup ("lamps" : Str) = some (.ref tl)
  lc : fs.lookup ("contacts" : Str) = some (.ref tc)
  hn : SqT K H tn (b.nodes.map V.str)
  hs : SqT K H ts (b.switches.map V.str)
  hr : SqT K H tr xr
  hl : SqT K H tl xl
  hc : SqT K H tc xc
  rr : Rows K H xr (b.relays.map Sp3.row)
  rl : Rows K H xl (b.lamps.map Sp3.row)
  rc : Rows K H xc (b.contacts.map Ct.row)
theorem Fl.mono {K : PySem.W.Frag} {H H' : Hp} {fs : List (Str × V)} {b : Bd} {tn ts tr tl tc : Addr} {xr xl xc : List V} (s : Same H H') (f : Fl K H fs b tn ts tr tl tc xr xl xc) : Fl K H' fs b tn ts tr tl tc xr xl xc :=
  ⟨f.ln, f.ls, f.lr, f.ll, f.lc, Same.sqt s f.hn, Same.sqt s f.hs, Same.sqt s f.hr, Same.sqt s f.hl, Same.sqt s f.hc, f.rr.mono s, f.rl.mono s, f.rc.mono s⟩
/-- b with as few parts as a board may have at most -/
structure Few (b : Bd) : Prop where
  n : b.nodes.length ≤ 1000
  s : b.switches.length ≤ 1000
  r : b.relays.length ≤ 1000
  l : b.lamps.length ≤ 1000
  c : b.contacts.length ≤ 1000
  nz : ∀ z ∈ b.nodes, z.length ≤ 1000000
  sz : ∀ z ∈ b.switches, z.length ≤ 1000000
  rz : ∀ r ∈ b.relays, r.nm.length ≤ 1000000
  lz : ∀ r ∈ b.lamps, r.nm.length ≤ 1000000
def onlyNames : List Str := ["nodes", "switches", "relays", "lamps", "contacts", "_movers"]
/-- the board b stands at p -/
def BoardAt (K : PySem.W.Frag) (C : Addr) (H : Hp) (p : Addr) (b : Bd) : Prop := ∃ (dx : Addr) (fs : List (Str × V)) (tn ts tr tl tc tm : Addr) (xr xl xc : List V), H p = some (.ins C dx fs) ∧ Fl K H fs b tn ts tr tl tc xr xl xc ∧
  fs.lookup ("_movers" : Str) = some (.ref tm) ∧ SqT K H tm (b.movers.map V.str) ∧ ∀ m, m ∉ onlyNames → fs.lookup m = none
theorem BoardAt.mono {K : PySem.W.Frag} {C : Addr} {H H' : Hp} {p : Addr} {b : Bd} (s : Same H H') : BoardAt K C H p b → BoardAt K C H' p b
  | ⟨dx, fs, tn, ts, tr, tl, tc, tm, xr, xl, xc, hp, f, lm, hm, o⟩ => ⟨dx, fs, tn, ts, tr, tl, tc, tm, xr, xl, xc, s _ _ hp, f.mono s, lm, Same.sqt s hm, o⟩
/-! ### the three checks -/
def spSpans (K : PySem.W.Frag) (C : Addr) : Sp := fun vs H Q _ => ∃ (p dx : Addr) (fs : List (Str × V)) (b : Bd) (tn ts tr tl tc : Addr) (xr xl xc : List V), vs = [.ref p] ∧ H p = some (.ins C dx fs) ∧ Fl K H fs b tn ts tr tl tc xr xl xc ∧ Few b ∧
  (∀ r ∈ b.relays, spanB b.nodes r = true) ∧ (∀ r ∈ b.lamps, spanB b.nodes r = true) ∧ ∀ H', Same H H' → Q .non H'
theorem scSpans : FnScope ["self", "part"] ["self"] (defScope sBoardCheckSpans) := ⟨rfl, rfl, rfl, by decide +kernel, rfl, by decide +kernel, by decide +kernel⟩
theorem ok_spans {f fS C sp sg : Addr} {mc : Value} {fd fdS fdI : FuncData} {k : Nat} (F : Fun K "_check_spans" "Board._check_spans" sBoardCheckSpans f fd) (T : BTxt K mg C mc sp sg)
    (FS : Fun K "is_span" "is_span" sIsSpan fS fdS) (bS : Binds K fdS ["part", "nodes"] []) (gS : mg "is_span" = some (.ref fS)) (FI : Fun K "is_good_name" "is_good_name" sIsGoodName sg fdI) (bI : Binds K fdI ["text"] []) :
    FnOk P w K mg base CX0 (k + 3) f fd ["self"] (spSpans K C) := by
  have GS : FnOk P w K mg base CX0 (k + 2) fS fdS ["part", "nodes"] (spIsSpan K) := ok_isSpan FS T FI bI
  refine F.ok scSpans (fun vs H Q E h => ?_) (fun cdv A outer s H vs Q E hr h => ?_)
  · obtain ⟨p, _, _, _, _, _, _, _, _, _, _, _, rfl, _⟩ := h
    rfl
  · obtain ⟨p, dx, fs, b, tn, ts, tr, tl, tc, xr, xl, xc, rfl, hp, f, few, okr, okl, q⟩ := h
    refine ⟨_, pss_one (ps_for PassesOwn.never rfl (pi_tup (pe_op op_catA (pe_fld (pv 0) rfl) (pe_fld (pv 0) rfl))) (pg_name (i := 1) scSpans.nd rfl (.inl rfl))
      (pss_one (ps_if (pt_not (pt_val (pe_call GS hr (by rfl) gS FS.kp bS .nil pass0 (pa_cons (pv 1) (pa_cons (pe_fld (pv 0) rfl) pa_nil))))) (pss_one ps_never) pss_nil))), ?_⟩
    refine ⟨_, rfl, p, C, dx, _, _, rfl, hp, T.cl, T.nR, f.lr, _, rfl, p, C, dx, _, _, rfl, hp, T.cl, T.nL, f.ll, ?_⟩
    have lr := f.rr.len
    have ll := f.rl.len
    rw [List.length_map] at lr ll
    refine cat_any f.hr f.hl (by have := few.r; have := few.l; omega) fun t H1 s1 ht => ?_
    have rows : Rows K H1 (xr ++ xl) ((b.relays ++ b.lamps).map Sp3.row) := by
      rw [List.map_append]
      exact (f.rr.mono s1).app (f.rl.mono s1)
    refine ⟨t, rfl, ⟨_, ht⟩, for_tup (K := K) (a := t) (xs := xr ++ xl) (fun i σ H2 => ∃ z1 : Option V, σ = [some (.ref p), z1] ∧ Same H1 H2) ⟨none, rfl, Same.refl _⟩ (fun _ _ _ _ ⟨_, _, sm⟩ => Same.sqt sm ht) ?_ ?_⟩
    · rintro i v σ H2 hi ⟨z1, rfl, sm⟩
      obtain ⟨tt, rw_, rfl, hrow, hri⟩ := rows.at hi
      rw [List.getElem?_map] at hri
      obtain ⟨r, hr1, rfl⟩ := Option.map_eq_some_iff.mp hri
      have hm := List.mem_of_getElem? hr1
      have good : spanB b.nodes r = true ∧ r.nm.length ≤ 1000000 := by
        rcases List.mem_append.mp hm with h | h
        · exact ⟨okr r h, few.rz r h⟩
        · exact ⟨okl r h, few.lz r h⟩
      refine ⟨_, rfl, _, rfl, p, C, dx, _, _, rfl, sm _ _ (s1 _ _ hp), T.cl, T.nN, f.ln, tt, tn, r, b.nodes, rfl, Same.sqt sm hrow, .inr (Same.sqt (s1.trans sm) f.hn), good.2, fun H3 s3 => ⟨_, rfl, ?_⟩⟩
      rw [good.1]
      refine iteF ?_
      exact ⟨_, rfl, sm.trans s3⟩
    · rintro σ H2 ⟨z1, rfl, sm⟩
      exact q H2 (s1.trans sm)
def spCtc (K : PySem.W.Frag) (C : Addr) : Sp := fun vs H Q _ => ∃ (p dx : Addr) (fs : List (Str × V)) (b : Bd) (tn ts tr tl tc tm : Addr) (xr xl xc : List V), vs = [.ref p] ∧ H p = some (.ins C dx fs) ∧ Fl K H fs b tn ts tr tl tc xr xl xc ∧
  fs.lookup ("_movers" : Str) = some (.ref tm) ∧ SqT K H tm (b.movers.map V.str) ∧ b.contacts.length ≤ 40 ∧ (∀ c ∈ b.contacts, ctB b.nodes b.movers c = true) ∧ ∀ H', Same H H' → Q .non H'
theorem scCtc : FnScope ["self", "contact"] ["self"] (defScope sBoardCheckContacts) := ⟨rfl, rfl, rfl, by decide +kernel, rfl, by decide +kernel, by decide +kernel⟩
theorem ok_ctc {f fS C sp sg : Addr} {mc : Value} {fd fdS : FuncData} {k : Nat} (F : Fun K "_check_contacts" "Board._check_contacts" sBoardCheckContacts f fd) (T : BTxt K mg C mc sp sg)
    (FS : Fun K "is_contact" "is_contact" sIsContact fS fdS) (bS : Binds K fdS ["part", "nodes", "movers"] []) (gS : mg "is_contact" = some (.ref fS)) : FnOk P w K mg base CX0 (k + 2) f fd ["self"] (spCtc K C) := by
  have GS : FnOk P w K mg base CX0 (k + 1) fS fdS ["part", "nodes", "movers"] (spIsContact K) := ok_isContact FS T
  obtain ⟨t5, c5⟩ := T.c5
  refine F.ok scCtc (fun vs H Q E h => ?_) (fun cdv A outer s H vs Q E hr h => ?_)
  · obtain ⟨p, _, _, _, _, _, _, _, _, _, _, _, _, rfl, _⟩ := h
    rfl
  · obtain ⟨p, dx, fs, b, tn, ts, tr, tl, tc, tm, xr, xl, xc, rfl, hp, f, lm, hm, l40, okc, q⟩ := h
    refine ⟨_, pss_cons (ps_if (pt_cmpR op_gt (pe_callB call_len_seq (by rfl) T.len PySem.boot_len (pa_cons (pe_fld (pv 0) rfl) pa_nil)) (ClX.pe_cval (pe_glob (v := .ref C) rfl T.mgB rfl) rfl) (nomark _)) (pss_one ps_never) pss_nil)
      (pss_one (ps_for PassesOwn.never rfl (pi_tup (pe_fld (pv 0) rfl)) (pg_name (i := 1) scCtc.nd rfl (.inl rfl))
        (pss_one (ps_if (pt_not (pt_val (pe_call GS hr (by rfl) gS FS.kp bS .nil pass0 (pa_cons (pv 1) (pa_cons (pe_fld (pv 0) rfl) (pa_cons (pe_fld (pv 0) rfl) pa_nil)))))) (pss_one ps_never) pss_nil)))), ?_⟩
    have lc := f.rc.len
    rw [List.length_map] at lc
    refine ⟨_, rfl, p, C, dx, _, _, rfl, hp, T.cl, T.nC, f.lc, tc, _, rfl, .inr f.hc, C, mc, .int 40, _, rfl, T.cr, ⟨c5, ⟨_, rfl⟩⟩, _, _, rfl, rfl, _, rfl, ?_⟩
    rw [decide_eq_false (by omega)]
    refine iteF ?_
    refine ⟨_, rfl, p, C, dx, _, _, rfl, hp, T.cl, T.nC, f.lc, tc, rfl, ⟨_, f.hc⟩, for_tup (K := K) (a := tc) (xs := xc) (fun i σ H2 => ∃ z1 : Option V, σ = [some (.ref p), z1] ∧ Same H H2) ⟨none, rfl, Same.refl _⟩ (fun _ _ _ _ ⟨_, _, sm⟩ => Same.sqt sm f.hc) ?_ ?_⟩
    · rintro i v σ H2 hi ⟨z1, rfl, sm⟩
      obtain ⟨tt, rw_, rfl, hrow, hri⟩ := f.rc.at hi
      rw [List.getElem?_map] at hri
      obtain ⟨c, hc1, rfl⟩ := Option.map_eq_some_iff.mp hri
      have hm1 := List.mem_of_getElem? hc1
      refine ⟨_, rfl, _, rfl, p, C, dx, _, _, rfl, sm _ _ hp, T.cl, T.nN, f.ln, _, rfl, p, C, dx, _, _, rfl, sm _ _ hp, T.cl, T.nM, lm, tt, tn, tm, c, b.nodes, b.movers, rfl, Same.sqt sm hrow, .inr (Same.sqt sm f.hn), .inr (Same.sqt sm hm), fun H3 s3 => ⟨_, rfl, ?_⟩⟩
      rw [okc c hm1]
      refine iteF ?_
      exact ⟨_, rfl, sm.trans s3⟩
    · rintro σ H2 ⟨z1, rfl, sm⟩
      exact q H2 sm
def spChk (K : PySem.W.Frag) (C : Addr) : Sp := fun vs H Q _ => ∃ (p dx : Addr) (fs : List (Str × V)) (b : Bd) (tn ts tr tl tc tm : Addr) (xr xl xc : List V), vs = [.ref p] ∧ H p = some (.ins C dx fs) ∧ Fl K H fs b tn ts tr tl tc xr xl xc ∧
  fs.lookup ("_movers" : Str) = some (.ref tm) ∧ SqT K H tm (b.movers.map V.str) ∧ Few b ∧ b.Ok ∧ ∀ H', Same H H' → Q .non H'
theorem scChk : FnScope ["self", "lamps", "name", "_"] ["self"] (defScope sBoardCheckNames) := ⟨rfl, rfl, rfl, by decide +kernel, rfl, by decide +kernel, by decide +kernel⟩
theorem Few.mz {b : Bd} (f : Few b) : ∀ z ∈ b.movers, z.length ≤ 1000000 := fun z hz => by
  unfold Bd.movers at hz
  rcases List.mem_append.mp hz with h | h
  · exact f.sz z h
  · obtain ⟨r, hr, rfl⟩ := List.mem_map.mp h
    exact f.rz r hr
theorem ok_chk {f fA C sp sg : Addr} {mc : Value} {fd fdA fdI : FuncData} {k : Nat} (F : Fun K "_check_names" "Board._check_names" sBoardCheckNames f fd) (T : BTxt K mg C mc sp sg)
    (FA : Fun K "are_names" "are_names" sAreNames fA fdA) (bA : Binds K fdA ["names", "least", "most"] []) (gA : mg "are_names" = some (.ref fA)) (FI : Fun K "is_good_name" "is_good_name" sIsGoodName sg fdI) (bI : Binds K fdI ["text"] []) :
    FnOk P w K mg base CX0 (k + 3) f fd ["self"] (spChk K C) := by
  have GA : FnOk P w K mg base CX0 (k + 2) fA fdA ["names", "least", "most"] (spAreNames K) := ok_areNames FA T FI bI (fI := fA)
  obtain ⟨t1, c1⟩ := T.c1
  obtain ⟨t2, c2⟩ := T.c2
  obtain ⟨t3, c3⟩ := T.c3
  obtain ⟨t4, c4⟩ := T.c4
  obtain ⟨u2, g2⟩ := T.g2
  obtain ⟨u3, g3⟩ := T.g3
  refine F.ok scChk (fun vs H Q E h => ?_) (fun cdv A outer s H vs Q E hr h => ?_)
  · obtain ⟨p, _, _, _, _, _, _, _, _, _, _, _, _, rfl, _⟩ := h
    rfl
  · obtain ⟨p, dx, fs, b, tn, ts, tr, tl, tc, tm, xr, xl, xc, rfl, hp, f, lm, hm, few, ok, q⟩ := h
    refine ⟨_, pss_cons (ps_if (pt_not (pt_val (pe_call GA hr (by rfl) gA FA.kp bA .nil pass0 (pa_cons (pe_fld (pv 0) rfl) (pa_cons (pe_glob (v := .int 2) rfl g2 ⟨_, rfl⟩) (pa_cons (ClX.pe_cval (pe_glob (v := .ref C) rfl T.mgB rfl) rfl) pa_nil)))))) (pss_one ps_never) pss_nil)
      (pss_cons (ps_if (PW.pt (pw_or (pt_cmpR op_gt (pe_callB call_len_seq (by rfl) T.len PySem.boot_len (pa_cons (pe_fld (pv 0) rfl) pa_nil)) (ClX.pe_cval (pe_glob (v := .ref C) rfl T.mgB rfl) rfl) (nomark _))
          (pw_or1 (pt_cmpR op_gt (pe_callB call_len_seq (by rfl) T.len PySem.boot_len (pa_cons (pe_fld (pv 0) rfl) pa_nil)) (ClX.pe_cval (pe_glob (v := .ref C) rfl T.mgB rfl) rfl) (nomark _))))) (pss_one ps_never) pss_nil)
      (pss_cons (ps_if (pt_not (pt_val (pe_call GA hr (by rfl) gA FA.kp bA .nil pass0 (pa_cons (pe_fld (pv 0) rfl) (pa_cons pe_int (pa_cons (pe_callB call_len_seq (by rfl) T.len PySem.boot_len (pa_cons (pe_fld (pv 0) rfl) pa_nil)) pa_nil)))))) (pss_one ps_never) pss_nil)
      (pss_cons (ps_setLc (i := 1) (own := [("name", 2), ("_", 3)]) (g := gTup K 3 (gCons (gName 2) (gCons (gName 3) (gCons (gName 3) gNil)))) (tt := tYes) rfl scChk.nd rfl rfl (sw_true rfl rfl rfl (by decide +kernel)) (pi_tup (pe_fld (pv 0) rfl)) (blkOk_by (N := ["self", "lamps", "name", "_"]) (sc := defScope sBoardCheckNames) (by decide +kernel))
          (fun _ _ _ _ _ => pg_tup rfl (pgs_cons (pg_name (i := 2) scChk.nd rfl (Or.inl rfl)) (pgs_cons (pg_name (i := 3) scChk.nd rfl (Or.inl rfl)) (pgs_cons (pg_name (i := 3) scChk.nd rfl (Or.inl rfl)) pgs_nil)))) (fun _ _ _ _ _ => pts_nil) (fun _ _ _ _ _ => pv 2))
      (pss_one (ps_if (pt_not (pt_val (pe_call GA hr (by rfl) gA FA.kp bA .nil pass0 (pa_cons (pv 1) (pa_cons (pe_glob (v := .int 1) rfl g3 ⟨_, rfl⟩) (pa_cons (ClX.pe_cval (pe_glob (v := .ref C) rfl T.mgB rfl) rfl) pa_nil)))))) (pss_one ps_never) pss_nil))))), ?_⟩
    -- the nodes
    refine ⟨_, rfl, p, C, dx, _, _, rfl, hp, T.cl, T.nN, f.ln, C, mc, .int 16, _, rfl, T.cr, ⟨c1, ⟨_, rfl⟩⟩, tn, b.nodes, 2, 16, rfl, .inr f.hn, few.nz, few.n, fun H1 s1 => ⟨_, rfl, ?_⟩⟩
    rw [ok.nodes]
    refine iteF ?_
    -- the counts
    have lr := f.rr.len
    rw [List.length_map] at lr
    refine ⟨_, rfl, p, C, dx, _, _, rfl, s1 _ _ hp, T.cl, T.nS, f.ls, ts, _, rfl, .inr (Same.sqt s1 f.hs), C, mc, .int 6, _, rfl, T.cr, ⟨c2, ⟨_, rfl⟩⟩, _, _, rfl, rfl, _, rfl, ?_⟩
    rw [decide_eq_false (by rw [List.length_map]; have := ok.sw; omega)]
    refine iteF ?_
    refine ⟨_, rfl, p, C, dx, _, _, rfl, s1 _ _ hp, T.cl, T.nR, f.lr, tr, _, rfl, .inr (Same.sqt s1 f.hr), C, mc, .int 8, _, rfl, T.cr, ⟨c3, ⟨_, rfl⟩⟩, _, _, rfl, rfl, _, rfl, ?_⟩
    rw [decide_eq_false (by have := ok.rl; omega)]
    refine iteF ?_
    -- the movers
    have ml : b.movers.length ≤ 1000 := by
      unfold Bd.movers
      rw [List.length_append, List.length_map]
      have := ok.sw
      have := ok.rl
      omega
    refine ⟨_, rfl, p, C, dx, _, _, rfl, s1 _ _ hp, T.cl, T.nM, lm, _, rfl, p, C, dx, _, _, rfl, s1 _ _ hp, T.cl, T.nM, lm, tm, _, rfl, .inr (Same.sqt s1 hm), tm, b.movers, 0, b.movers.length, by rw [List.length_map]; rfl, .inr (Same.sqt s1 hm), few.mz, ml, fun H2 s2 => ⟨_, rfl, ?_⟩⟩
    rw [ok.mv]
    refine iteF ?_
    have s12 := s1.trans s2
    -- the lamps
    have ll := f.rl.len
    rw [List.length_map] at ll
    refine ⟨_, rfl, p, C, dx, _, _, rfl, s12 _ _ hp, T.cl, T.nL, f.ll, tl, rfl, ⟨_, Same.sqt s12 f.hl⟩, fun D hD => ?_⟩
    refine lc_tup (K := K) (a := tl) (xs := xl) (fun i H3 => Same H2 H3 ∧ H3 D = some (.lst (((b.lamps.map (·.nm)).take i).map V.str)))
      ⟨same_upd hD, upd_same⟩ (fun i H3 _ h => Same.sqt (s12.trans h.1) f.hl) ?_ ?_
    · rintro i v H3 hi ⟨sm, hd⟩
      have hil := (List.getElem?_eq_some_iff.mp hi).1
      obtain ⟨tt, rw_, rfl, hrow, hri⟩ := f.rl.at hi
      rw [List.getElem?_map] at hri
      obtain ⟨r, hr1, rfl⟩ := Option.map_eq_some_iff.mp hri
      refine ⟨tt, _, rfl, Same.sqt (s12.trans sm) hrow, rfl, _, _, rfl, _, _, rfl, _, _, rfl, rfl, rfl, ?_⟩
      refine yesT ?_
      refine ⟨_, rfl, _, hd, ?_, same_mut sm hD, ?_⟩
      · rw [List.length_map, List.length_take]
        have := few.l
        exact szlt (by rw [List.length_map]; omega)
      · rw [upd_same, ← map_snoc, List.take_add_one, List.getElem?_map, hr1]
        rfl
    · rintro H3 ⟨sm, hd⟩
      rw [ll, ← List.length_map (f := fun r : Sp3 => r.nm), List.take_length] at hd
      refine ⟨_, rfl, C, mc, .int 8, _, rfl, T.cr, ⟨c4, ⟨_, rfl⟩⟩, D, b.lamps.map (·.nm), 1, 8, rfl, .inl (sq hd), fun z hz => ?_, by rw [List.length_map]; exact few.l, fun H4 s4 => ⟨_, rfl, ?_⟩⟩
      · obtain ⟨r, hr1, rfl⟩ := List.mem_map.mp hz
        exact few.lz r hr1
      · rw [ok.lp]
        refine iteF ?_
        exact q H4 ((s12.trans sm).trans s4)
/-! ### Board.__init__ -/
def KeepP (p : Addr) (H H' : Hp) : Prop := ∀ a o, a ≠ p → H a = some o → H' a = some o
theorem KeepP.of {p : Addr} {H H' : Hp} (s : Same H H') : KeepP p H H' := fun a o _ h => s a o h
theorem KeepP.upd {p : Addr} {H : Hp} {o : HO} : KeepP p H (L2.upd H p o) := fun a x n h => by rw [upd_ne n]; exact h
theorem KeepP.trans {p : Addr} {H H1 H2 : Hp} (a : KeepP p H H1) (b : KeepP p H1 H2) : KeepP p H H2 := fun x o n h => b x o n (a x o n h)
theorem KeepP.sqt {K : PySem.W.Frag} {p a C dx : Addr} {fs : List (Str × V)} {H H' : Hp} {xs : List V} (k : KeepP p H H') (hp : H p = some (.ins C dx fs)) (h : SqT K H a xs) : SqT K H' a xs := by
  rcases h with (h | ⟨o, h⟩) | h
  · exact .inl (.inl (k _ _ (ne_of h hp (by intro z; cases z)) h))
  · exact .inl (.inr ⟨o, k _ _ (ne_of h hp (by intro z; cases z)) h⟩)
  · exact .inr h
theorem KeepP.rows {K : PySem.W.Frag} {p C dx : Addr} {fs : List (Str × V)} {H H' : Hp} (k : KeepP p H H') (hp : H p = some (.ins C dx fs)) : ∀ {xs : List V} {rs : List (List V)}, Rows K H xs rs → Rows K H' xs rs
  | [], [], _ => True.intro
  | _ :: _, _ :: _, ⟨⟨t, e, h⟩, r⟩ => ⟨⟨t, e, k.sqt hp h⟩, k.rows hp r⟩
/-- rows that may be lists -/
def RowsA (K : PySem.W.Frag) (H : Hp) : List V → List (List V) → Prop
  | [], [] => True
  | v :: xs, r :: rs => (∃ t, v = .ref t ∧ Sq K H t r) ∧ RowsA K H xs rs
  | _, _ => False
theorem RowsA.of {K : PySem.W.Frag} {H : Hp} : ∀ {xs : List V} {rs : List (List V)}, Rows K H xs rs → RowsA K H xs rs
  | [], [], _ => True.intro
  | _ :: _, _ :: _, ⟨⟨t, e, h⟩, r⟩ => ⟨⟨t, e, .inr h⟩, RowsA.of r⟩
theorem RowsA.len {K : PySem.W.Frag} {H : Hp} : ∀ {xs : List V} {rs : List (List V)}, RowsA K H xs rs → xs.length = rs.length
  | [], [], _ => rfl
  | _ :: _, _ :: _, ⟨_, r⟩ => congrArg (· + 1) r.len
theorem RowsA.at {K : PySem.W.Frag} {H : Hp} : ∀ {xs : List V} {rs : List (List V)} {i : Nat} {v : V}, RowsA K H xs rs → xs[i]? = some v → ∃ t r, v = .ref t ∧ Sq K H t r ∧ rs[i]? = some r
  | [], [], _, _, _, h => by simp at h
  | _ :: _, r :: _, 0, _, ⟨⟨t, e, h⟩, _⟩, hi => ⟨t, r, by rw [← Option.some.inj hi]; exact e, h, rfl⟩
  | _ :: _, _ :: _, i + 1, _, ⟨_, r⟩, hi => RowsA.at (i := i) r hi
@[irreducible] def rTup (K : PySem.W.Frag) : List V → Hp → VK → Prop := fun xs H Q => ∃ p ys, xs = [.ref p] ∧ ((SqL K H p ys ∧ ∀ l, H l = none → Q (.ref l) (upd H l (.tup ys))) ∨ (SqT K H p ys ∧ Q (.ref p) H))
theorem call_tupA {X : Cx} : CallR X (.type "tuple") (rTup X.K) := by
  unfold rTup
  exact call_tuple_of
theorem tup_any {K : PySem.W.Frag} {a : Addr} {xs : List V} {H : Hp} {Q : VK} (h : Sq K H a xs) (q : ∀ p H', Same H H' → SqT K H' p xs → Q (.ref p) H') :
    rTup K [.ref a] H Q := by
  unfold rTup
  rcases h with h | h
  · exact ⟨a, xs, rfl, .inl ⟨h, fun l nl => q l _ (same_upd nl) (st upd_same)⟩⟩
  · exact ⟨a, xs, rfl, .inr ⟨h, q a H (Same.refl H) h⟩⟩
def fl1 (tn : Addr) : List (Str × V) := putF "nodes" (.ref tn) []
def fl2 (tn ts : Addr) : List (Str × V) := putF "switches" (.ref ts) (fl1 tn)
def fl3 (tn ts tr : Addr) : List (Str × V) := putF "relays" (.ref tr) (fl2 tn ts)
def fl4 (tn ts tr tl : Addr) : List (Str × V) := putF "lamps" (.ref tl) (fl3 tn ts tr)
def fl5 (tn ts tr tl tc : Addr) : List (Str × V) := putF "contacts" (.ref tc) (fl4 tn ts tr tl)
def fl6 (tn ts tr tl tc tm : Addr) : List (Str × V) := putF "_movers" (.ref tm) (fl5 tn ts tr tl tc)
theorem fl5_at (tn ts tr tl tc : Addr) (m : Str) : (fl5 tn ts tr tl tc).lookup m = if m = "contacts" then some (.ref tc) else if m = "lamps" then some (.ref tl) else if m = "relays" then some (.ref tr) else if m = "switches" then some (.ref ts) else if m = "nodes" then some (.ref tn) else none := by
  unfold fl5 fl4 fl3 fl2 fl1
  rw [lookup_putF, lookup_putF, lookup_putF, lookup_putF, lookup_putF]
  rfl
theorem fl6_at (tn ts tr tl tc tm : Addr) (m : Str) : (fl6 tn ts tr tl tc tm).lookup m = if m = "_movers" then some (.ref tm) else (fl5 tn ts tr tl tc).lookup m := by
  unfold fl6
  rw [lookup_putF]
theorem fl_len5 (tn ts tr tl tc : Addr) : (fl5 tn ts tr tl tc).length ≤ 5 ∧ (fl4 tn ts tr tl).length ≤ 4 ∧ (fl3 tn ts tr).length ≤ 3 ∧ (fl2 tn ts).length ≤ 2 ∧ (fl1 tn).length ≤ 1 := by
  have h1 : (fl1 tn).length ≤ 0 + 1 := putF_len _ _ []
  have h2 : (fl2 tn ts).length ≤ (fl1 tn).length + 1 := putF_len _ _ _
  have h3 : (fl3 tn ts tr).length ≤ (fl2 tn ts).length + 1 := putF_len _ _ _
  have h4 : (fl4 tn ts tr tl).length ≤ (fl3 tn ts tr).length + 1 := putF_len _ _ _
  have h5 : (fl5 tn ts tr tl tc).length ≤ (fl4 tn ts tr tl).length + 1 := putF_len _ _ _
  omega
theorem fl5_nodes (tn ts tr tl tc : Addr) : (fl5 tn ts tr tl tc).lookup ("nodes" : Str) = some (.ref tn) := by
  rw [fl5_at, if_neg (by decide +kernel), if_neg (by decide +kernel), if_neg (by decide +kernel), if_neg (by decide +kernel), if_pos rfl]
theorem fl5_switches (tn ts tr tl tc : Addr) : (fl5 tn ts tr tl tc).lookup ("switches" : Str) = some (.ref ts) := by
  rw [fl5_at, if_neg (by decide +kernel), if_neg (by decide +kernel), if_neg (by decide +kernel), if_pos rfl]
theorem fl5_relays (tn ts tr tl tc : Addr) : (fl5 tn ts tr tl tc).lookup ("relays" : Str) = some (.ref tr) := by
  rw [fl5_at, if_neg (by decide +kernel), if_neg (by decide +kernel), if_pos rfl]
theorem fl5_lamps (tn ts tr tl tc : Addr) : (fl5 tn ts tr tl tc).lookup ("lamps" : Str) = some (.ref tl) := by
  rw [fl5_at, if_neg (by decide +kernel), if_pos rfl]
theorem fl5_contacts (tn ts tr tl tc : Addr) : (fl5 tn ts tr tl tc).lookup ("contacts" : Str) = some (.ref tc) := by
  rw [fl5_at, if_pos rfl]
theorem fl6_old (tn ts tr tl tc tm : Addr) {m : Str} (h : ¬ m = "_movers") : (fl6 tn ts tr tl tc tm).lookup m = (fl5 tn ts tr tl tc).lookup m := by rw [fl6_at, if_neg h]
theorem fl6_only (tn ts tr tl tc tm : Addr) (m : Str) (h : m ∉ onlyNames) : (fl6 tn ts tr tl tc tm).lookup m = none := by
  unfold onlyNames at h
  simp only [List.mem_cons, List.not_mem_nil, or_false, not_or] at h
  rw [fl6_at, if_neg h.2.2.2.2.2, fl5_at, if_neg h.2.2.2.2.1, if_neg h.2.2.2.1, if_neg h.2.2.1, if_neg h.2.1, if_neg h.1]
theorem fl5_only (tn ts tr tl tc : Addr) (m : Str) (h : m ∉ onlyNames) : (fl5 tn ts tr tl tc).lookup m = none := by
  unfold onlyNames at h
  simp only [List.mem_cons, List.not_mem_nil, or_false, not_or] at h
  rw [fl5_at, if_neg h.2.2.2.2.1, if_neg h.2.2.2.1, if_neg h.2.2.1, if_neg h.2.1, if_neg h.1]
/-- what is handed to Board(..): lists or tuples of the parts -/
structure Given (K : PySem.W.Frag) (H : Hp) (b : Bd) (an al as ar ac : Addr) : Prop where
  n : Sq K H an (b.nodes.map V.str)
  s : Sq K H as (b.switches.map V.str)
  l : ∃ xs, Sq K H al xs ∧ RowsA K H xs (b.lamps.map Sp3.row)
  r : ∃ xs, Sq K H ar xs ∧ RowsA K H xs (b.relays.map Sp3.row)
  c : ∃ xs, Sq K H ac xs ∧ RowsA K H xs (b.contacts.map Ct.row)
theorem RowsA.mono {K : PySem.W.Frag} {H H' : Hp} (s : Same H H') : ∀ {xs : List V} {rs : List (List V)}, RowsA K H xs rs → RowsA K H' xs rs
  | [], [], _ => True.intro
  | _ :: _, _ :: _, ⟨⟨t, e, h⟩, r⟩ => ⟨⟨t, e, Same.sq s h⟩, r.mono s⟩
theorem Given.mono {K : PySem.W.Frag} {H H' : Hp} {b : Bd} {an al as ar ac : Addr} (s : Same H H') (g : Given K H b an al as ar ac) : Given K H' b an al as ar ac :=
  ⟨Same.sq s g.n, Same.sq s g.s, g.l.imp fun _ h => ⟨Same.sq s h.1, h.2.mono s⟩, g.r.imp fun _ h => ⟨Same.sq s h.1, h.2.mono s⟩, g.c.imp fun _ h => ⟨Same.sq s h.1, h.2.mono s⟩⟩
def spInit (K : PySem.W.Frag) (C : Addr) : Sp := fun vs H Q _ => ∃ (p dx : Addr) (H0 : Hp) (an al as ar ac : Addr) (b : Bd), vs = [.ref p, .ref an, .ref al, .ref as, .ref ar, .ref ac] ∧ H p = some (.ins C dx []) ∧ H0 p = none ∧ Same H0 H ∧ Given K H0 b an al as ar ac ∧ Few b ∧ b.Ok ∧
  ∀ H', Same H0 H' → BoardAt K C H' p b → Q .non H'
theorem scInit : FnScope ["self", "nodes", "lamps", "switches", "relays", "contacts", "relay", "lamp", "contact", "name", "_"] ["self", "nodes", "lamps", "switches", "relays", "contacts"] (defScope sBoardInit) := ⟨rfl, rfl, rfl, by decide +kernel, rfl, by decide +kernel, by decide +kernel⟩
structure BMeths (K : PySem.W.Frag) (C fS fN fC : Addr) : Prop where
  ms : Meth K C "_check_spans" fS
  mn : Meth K C "_check_names" fN
  mc : Meth K C "_check_contacts" fC
theorem rows_loop {K : PySem.W.Frag} {H1 : Hp} {D : Addr} {xs : List V} {rs : List (List V)} {vs : List Nat} {σ : L2.St} {j : Nat} {Qd : Hp → Prop} {J : It} {te : TE} {G : Hp → Prop} (wj : Walk J xs.length G (YAt xs)) (hS : ∀ H2, Same H1 H2 → G H2) (hR : RowsA K H1 xs rs) (hlen : rs.length ≤ 1000) (hD : H1 D = none)
    (hw : ∀ t, wipe ((wipe σ vs).set j (some (.ref t))) vs = wipe σ vs)
    (ht : ∀ t H2 r (Q : VK), Same H1 H2 → Sq K H2 t r → (∀ p H3, Same H2 H3 → SqT K H3 p r → Q (.ref p) H3) → te ((wipe σ vs).set j (some (.ref t))) H2 Q)
    (hd : ∀ H2 ys, Same H1 H2 → H2 D = some (.lst ys) → Rows K H2 ys rs → Qd H2) :
    ∃ W : Nat → Nat → Hp → Prop, (∃ m, W 0 m (upd H1 D (.lst []))) ∧ ∀ i m H, W i m H →
      (J.stop i H ∧ Qd H) ∨ (J.go i H ∧ ∃ Nx : Hp → Prop, (∀ H', Nx H' → ∃ m', m' < m ∧ W (i + 1) m' H') ∧ ∀ x H', J.yld i H x H' → gName j x (wipe σ vs) H' fun σ2 H2 => wipe σ2 vs = wipe σ vs ∧ tYes σ2 H2 fun b H3 =>
        if b = true then te σ2 H3 fun y H4 => ∃ acc, H4 D = some (.lst acc) ∧ acc.length < sizeLine ∧ Nx (upd H4 D (.lst (acc ++ [y]))) else Nx H3) := by
  refine lc_it wj (fun i H2 => ∃ ys, Same H1 H2 ∧ H2 D = some (.lst ys) ∧ Rows K H2 ys (rs.take i)) ⟨[], same_upd hD, upd_same, True.intro⟩ (fun i H2 _ ⟨_, sm, _⟩ => hS H2 sm) ?_ ?_
  · rintro i v H2 H3 hi ⟨ys, sm, hd2, hr2⟩ ⟨rfl, hv⟩
    obtain ⟨t, r, rfl, hrow, hri⟩ := hR.at hv
    refine ⟨hw t, ?_⟩
    refine yesT ?_
    refine ht t H3 r _ sm (Same.sq sm hrow) fun p H4 s4 hp => ?_
    have nD : ∀ q w, SqT K H4 q w → SqT K (upd H4 D (.lst (ys ++ [.ref p]))) q w := fun q w hq => by
      have hd4 := s4 _ _ hd2
      rcases hq with (hq | ⟨o, hq⟩) | hq
      · exact .inl (.inl (by rw [upd_ne (ne_of hq hd4 (by intro z; cases z))]; exact hq))
      · exact .inl (.inr ⟨o, by rw [upd_ne (ne_of hq hd4 (by intro z; cases z))]; exact hq⟩)
      · exact .inr hq
    refine ⟨ys, s4 _ _ hd2, ?_, ys ++ [.ref p], same_mut (sm.trans s4) hD, upd_same, ?_⟩
    · have := hr2.len
      rw [List.length_take] at this
      exact szlt (by omega)
    · rw [List.take_add_one, hri]
      have up : ∀ {xs : List V} {ws : List (List V)}, Rows K H4 xs ws → Rows K (upd H4 D (.lst (ys ++ [.ref p]))) xs ws := by
        intro xs
        induction xs with
        | nil => intro ws h; cases ws with | nil => exact True.intro | cons _ _ => exact h
        | cons x xs ih => intro ws h; cases ws with | nil => exact h | cons w ws => exact ⟨h.1.imp fun q y => ⟨y.1, nD _ _ y.2⟩, ih h.2⟩
      exact (up (hr2.mono s4)).snoc (nD _ _ hp)
  · rintro H2 ⟨ys, sm, hd2, hr2⟩
    rw [hR.len, List.take_length] at hr2
    exact hd H2 ys sm hd2 hr2
theorem seq_rows {K : PySem.W.Frag} {H1 : Hp} {a : Addr} {xs : List V} {rs : List (List V)} {vs : List Nat} {σ : L2.St} {j : Nat} {Qd : Addr → Hp → Prop} {te : TE} (hq : Sq K H1 a xs) (hR : RowsA K H1 xs rs) (hlen : rs.length ≤ 1000)
    (hw : ∀ t, wipe ((wipe σ vs).set j (some (.ref t))) vs = wipe σ vs)
    (ht : ∀ t H2 r (Q : VK), Same H1 H2 → Sq K H2 t r → (∀ p H3, Same H2 H3 → SqT K H3 p r → Q (.ref p) H3) → te ((wipe σ vs).set j (some (.ref t))) H2 Q)
    (hd : ∀ D H2 ys, Same H1 H2 → H2 D = some (.lst ys) → Rows K H2 ys rs → Qd D H2) :
    (SqL K H1 a xs ∧ ∀ D, H1 D = none → ∃ W : Nat → Nat → Hp → Prop, (∃ m, W 0 m (upd H1 D (.lst []))) ∧ ∀ i m H, W i m H →
      ((Itl K a).stop i H ∧ Qd D H) ∨ ((Itl K a).go i H ∧ ∃ Nx : Hp → Prop, (∀ H', Nx H' → ∃ m', m' < m ∧ W (i + 1) m' H') ∧ ∀ x H', (Itl K a).yld i H x H' → gName j x (wipe σ vs) H' fun σ2 H2 => wipe σ2 vs = wipe σ vs ∧ tYes σ2 H2 fun b H3 =>
        if b = true then te σ2 H3 fun y H4 => ∃ acc, H4 D = some (.lst acc) ∧ acc.length < sizeLine ∧ Nx (upd H4 D (.lst (acc ++ [y]))) else Nx H3)) ∨
    (SqT K H1 a xs ∧ ∀ D, H1 D = none → ∃ W : Nat → Nat → Hp → Prop, (∃ m, W 0 m (upd H1 D (.lst []))) ∧ ∀ i m H, W i m H →
      ((Itt K a).stop i H ∧ Qd D H) ∨ ((Itt K a).go i H ∧ ∃ Nx : Hp → Prop, (∀ H', Nx H' → ∃ m', m' < m ∧ W (i + 1) m' H') ∧ ∀ x H', (Itt K a).yld i H x H' → gName j x (wipe σ vs) H' fun σ2 H2 => wipe σ2 vs = wipe σ vs ∧ tYes σ2 H2 fun b H3 =>
        if b = true then te σ2 H3 fun y H4 => ∃ acc, H4 D = some (.lst acc) ∧ acc.length < sizeLine ∧ Nx (upd H4 D (.lst (acc ++ [y]))) else Nx H3)) := by
  rcases hq with h | h
  · exact .inl ⟨h, fun D hD => rows_loop walk_list (fun G y => y.seq h) hR hlen hD hw ht (hd D)⟩
  · exact .inr ⟨h, fun D hD => rows_loop walk_tup (fun G y => Same.sqt y h) hR hlen hD hw ht (hd D)⟩
theorem bt_tuple : bootBuiltins "tuple" = some (.type "tuple") := by decide +kernel
theorem ok_init {f fS fN fC fI1 fI2 fI3 C sp sg : Addr} {mc : Value} {fd fdS fdN fdC fdI1 fdI2 fdI3 fdI : FuncData} {k : Nat} (F : Fun K "__init__" "Board.__init__" sBoardInit f fd) (T : BTxt K mg C mc sp sg) (M : BMeths K C fS fN fC)
    (FS : Fun K "_check_spans" "Board._check_spans" sBoardCheckSpans fS fdS) (bS : Binds K fdS ["self"] []) (FN : Fun K "_check_names" "Board._check_names" sBoardCheckNames fN fdN) (bN : Binds K fdN ["self"] [])
    (FC : Fun K "_check_contacts" "Board._check_contacts" sBoardCheckContacts fC fdC) (bC : Binds K fdC ["self"] [])
    (F1 : Fun K "is_span" "is_span" sIsSpan fI1 fdI1) (b1 : Binds K fdI1 ["part", "nodes"] []) (g1 : mg "is_span" = some (.ref fI1))
    (F2 : Fun K "are_names" "are_names" sAreNames fI2 fdI2) (b2 : Binds K fdI2 ["names", "least", "most"] []) (g2 : mg "are_names" = some (.ref fI2))
    (F3 : Fun K "is_contact" "is_contact" sIsContact fI3 fdI3) (b3 : Binds K fdI3 ["part", "nodes", "movers"] []) (g3 : mg "is_contact" = some (.ref fI3))
    (FI : Fun K "is_good_name" "is_good_name" sIsGoodName sg fdI) (bI : Binds K fdI ["text"] []) :
    FnOk P w K mg base CX0 (k + 4) f fd ["self", "nodes", "lamps", "switches", "relays", "contacts"] (spInit K C) := by
  have GS : FnOk P w K mg base CX0 (k + 3) fS fdS ["self"] (spSpans K C) := ok_spans FS T F1 b1 g1 FI bI
  have GN : FnOk P w K mg base CX0 (k + 3) fN fdN ["self"] (spChk K C) := ok_chk FN T F2 b2 g2 FI bI
  have GC : FnOk P w K mg base CX0 (k + 2) fC fdC ["self"] (spCtc K C) := ok_ctc FC T F3 b3 g3
  refine F.ok scInit (fun vs H Q E h => ?_) (fun cdv A outer s H vs Q E hr h => ?_)
  · obtain ⟨p, dx, H0, an, al, as, ar, ac, b, rfl, _⟩ := h
    rfl
  · obtain ⟨p, dx, H0, an, al, as, ar, ac, b, rfl, hp, np, s0, gv, few, ok, q⟩ := h
    have hr2 : Room (k + 2) _ := hr.mono (Nat.le_succ _)
    refine ⟨_, pss_cons (ps_fld (pv 0) (pe_callTy call_tupA (by rfl) T.tup (by decide +kernel) (pa_cons (pv 1) pa_nil)) rfl)
      (pss_cons (ps_fld (pv 0) (pe_callTy call_tupA (by rfl) T.tup (by decide +kernel) (pa_cons (pv 3) pa_nil)) rfl)
      (pss_cons (ps_fld (pv 0) (pe_callTy call_tupA (by rfl) T.tup (by decide +kernel) (pa_cons (pe_lc (own := [("relay", 6)]) (g := gName 6) (tt := tYes) (te := tCB (rTup K) (tCons (tVar 6) tNil)) rfl scInit.nd (pi_seqA (pv 4)) (blkOk_by (N := ["self", "nodes", "lamps", "switches", "relays", "contacts", "relay", "lamp", "contact", "name", "_"]) (sc := defScope sBoardInit) (by decide +kernel)) (fun _ _ _ _ _ => pg_name (i := 6) scInit.nd rfl (Or.inl rfl)) (fun _ _ _ _ _ => pts_nil)
          (fun _ _ _ _ _ => pe_callTy call_tupA (by rfl) T.tup bt_tuple (pa_cons (pv 6) pa_nil))) pa_nil)) rfl)
      (pss_cons (ps_fld (pv 0) (pe_callTy call_tupA (by rfl) T.tup (by decide +kernel) (pa_cons (pe_lc (own := [("lamp", 7)]) (g := gName 7) (tt := tYes) (te := tCB (rTup K) (tCons (tVar 7) tNil)) rfl scInit.nd (pi_seqA (pv 2)) (blkOk_by (N := ["self", "nodes", "lamps", "switches", "relays", "contacts", "relay", "lamp", "contact", "name", "_"]) (sc := defScope sBoardInit) (by decide +kernel)) (fun _ _ _ _ _ => pg_name (i := 7) scInit.nd rfl (Or.inl rfl)) (fun _ _ _ _ _ => pts_nil)
          (fun _ _ _ _ _ => pe_callTy call_tupA (by rfl) T.tup bt_tuple (pa_cons (pv 7) pa_nil))) pa_nil)) rfl)
      (pss_cons (ps_fld (pv 0) (pe_callTy call_tupA (by rfl) T.tup (by decide +kernel) (pa_cons (pe_lc (own := [("contact", 8)]) (g := gName 8) (tt := tYes) (te := tCB (rTup K) (tCons (tVar 8) tNil)) rfl scInit.nd (pi_seqA (pv 5)) (blkOk_by (N := ["self", "nodes", "lamps", "switches", "relays", "contacts", "relay", "lamp", "contact", "name", "_"]) (sc := defScope sBoardInit) (by decide +kernel)) (fun _ _ _ _ _ => pg_name (i := 8) scInit.nd rfl (Or.inl rfl)) (fun _ _ _ _ _ => pts_nil)
          (fun _ _ _ _ _ => pe_callTy call_tupA (by rfl) T.tup bt_tuple (pa_cons (pv 8) pa_nil))) pa_nil)) rfl)
      (pss_cons (ps_expr (pe_meth0 (pv 0) T.cl M.ms GS hr bS .nil pass0))
      (pss_cons (ps_fld (pv 0) (pe_op op_catA (pe_fld (pv 0) rfl) (pe_callTy call_tupA (by rfl) T.tup (by decide +kernel) (pa_cons (pe_lc (own := [("name", 9), ("_", 10)]) (g := gTup K 3 (gCons (gName 9) (gCons (gName 10) (gCons (gName 10) gNil)))) (tt := tYes) rfl scInit.nd (pi_tup (pe_fld (pv 0) rfl)) (blkOk_by (N := ["self", "nodes", "lamps", "switches", "relays", "contacts", "relay", "lamp", "contact", "name", "_"]) (sc := defScope sBoardInit) (by decide +kernel))
          (fun _ _ _ _ _ => pg_tup rfl (pgs_cons (pg_name (i := 9) scInit.nd rfl (Or.inl rfl)) (pgs_cons (pg_name (i := 10) scInit.nd rfl (Or.inl rfl)) (pgs_cons (pg_name (i := 10) scInit.nd rfl (Or.inl rfl)) pgs_nil)))) (fun _ _ _ _ _ => pts_nil) (fun _ _ _ _ _ => pv 9)) pa_nil))) rfl)
      (pss_cons (ps_expr (pe_meth0 (pv 0) T.cl M.mn GN hr bN .nil pass0))
      (pss_one (ps_expr (pe_meth0 (pv 0) T.cl M.mc GC hr2 bC .nil pass0)))))))))), ?_⟩
    -- nodes
    refine ⟨_, rfl, ?_⟩
    refine tup_any (Same.sq s0 gv.n) fun tn H1 s1 hn => ?_
    refine ⟨_, rfl, p, C, dx, _, rfl, s1 _ _ hp, T.cl, T.nN, by decide, ?_⟩
    have e1 : Same H0 (upd H1 p (.ins C dx (fl1 tn))) := same_mut (s0.trans s1) np
    -- switches
    refine ⟨_, rfl, ?_⟩
    refine tup_any (Same.sq e1 gv.s) fun ts H2 s2 hs => ?_
    refine ⟨_, rfl, p, C, dx, _, rfl, s2 _ _ upd_same, T.cl, T.nS, by have := fl_len5 tn ts p p p; exact Nat.lt_of_le_of_lt this.2.2.2.2 (by decide), ?_⟩
    have e2 : Same H0 (upd H2 p (.ins C dx (fl2 tn ts))) := same_mut (e1.trans s2) np
    -- relays
    obtain ⟨xr0, gr, rr0⟩ := gv.r
    obtain ⟨xl0, gl, rl0⟩ := gv.l
    obtain ⟨xc0, gc, rc0⟩ := gv.c
    have gr2 := Same.sq e2 gr
    have hr3 := Same.sq e2 gr
    refine ⟨_, rfl, ar, xr0, rfl, seq_rows hr3 (rr0.mono e2) (by rw [List.length_map]; exact few.r) (fun _ => rfl) (fun t G r Q' _ h q' => ⟨_, rfl, tup_any h q'⟩) fun D1 H3 yr s3 hD1 rr => ?_⟩
    refine tup_any (.inl (sq hD1)) fun tr H4 s4 htr => ?_
    refine ⟨_, rfl, p, C, dx, _, rfl, s4 _ _ (s3 _ _ upd_same), T.cl, T.nR, by have := fl_len5 tn ts p p p; exact Nat.lt_of_le_of_lt this.2.2.2.1 (by decide), ?_⟩
    have e4 : Same H0 (upd H4 p (.ins C dx (fl3 tn ts tr))) := same_mut ((e2.trans s3).trans s4) np
    -- lamps
    refine ⟨_, rfl, al, xl0, rfl, seq_rows (Same.sq e4 gl) (rl0.mono e4) (by rw [List.length_map]; exact few.l) (fun _ => rfl) (fun t G r Q' _ h q' => ⟨_, rfl, tup_any h q'⟩) fun D2 H5 yl s5 hD2 rl => ?_⟩
    refine tup_any (.inl (sq hD2)) fun tl H6 s6 htl => ?_
    refine ⟨_, rfl, p, C, dx, _, rfl, s6 _ _ (s5 _ _ upd_same), T.cl, T.nL, by have := fl_len5 tn ts tr p p; exact Nat.lt_of_le_of_lt this.2.2.1 (by decide), ?_⟩
    have e6 : Same H0 (upd H6 p (.ins C dx (fl4 tn ts tr tl))) := same_mut ((e4.trans s5).trans s6) np
    -- contacts
    refine ⟨_, rfl, ac, xc0, rfl, seq_rows (Same.sq e6 gc) (rc0.mono e6) (by rw [List.length_map]; exact few.c) (fun _ => rfl) (fun t G r Q' _ h q' => ⟨_, rfl, tup_any h q'⟩) fun D3 H7 yc s7 hD3 rc => ?_⟩
    refine tup_any (.inl (sq hD3)) fun tc H8 s8 htc => ?_
    refine ⟨_, rfl, p, C, dx, _, rfl, s8 _ _ (s7 _ _ upd_same), T.cl, T.nC, by have := fl_len5 tn ts tr tl p; exact Nat.lt_of_le_of_lt this.2.1 (by decide), ?_⟩
    have e8 : Same H0 (upd H8 p (.ins C dx (fl5 tn ts tr tl tc))) := same_mut ((e6.trans s7).trans s8) np
    -- what stands
    have k8 : KeepP p H8 (upd H8 p (.ins C dx (fl5 tn ts tr tl tc))) := KeepP.upd
    have k6 : KeepP p H6 (upd H8 p (.ins C dx (fl5 tn ts tr tl tc))) := ((KeepP.upd.trans (.of s7)).trans (.of s8)).trans k8
    have k4 : KeepP p H4 (upd H8 p (.ins C dx (fl5 tn ts tr tl tc))) := ((KeepP.upd.trans (.of s5)).trans (.of s6)).trans k6
    have k2 : KeepP p H2 (upd H8 p (.ins C dx (fl5 tn ts tr tl tc))) := ((KeepP.upd.trans (.of s3)).trans (.of s4)).trans k4
    have k1 : KeepP p H1 (upd H8 p (.ins C dx (fl5 tn ts tr tl tc))) := (KeepP.upd.trans (.of s2)).trans k2
    have p4 : H4 p = some (.ins C dx (fl2 tn ts)) := s4 _ _ (s3 _ _ upd_same)
    have p6 : H6 p = some (.ins C dx (fl3 tn ts tr)) := s6 _ _ (s5 _ _ upd_same)
    have p8 : H8 p = some (.ins C dx (fl4 tn ts tr tl)) := s8 _ _ (s7 _ _ upd_same)
    have f5 : Fl K (upd H8 p (.ins C dx (fl5 tn ts tr tl tc))) (fl5 tn ts tr tl tc) b tn ts tr tl tc yr yl yc :=
      ⟨fl5_nodes .., fl5_switches .., fl5_relays .., fl5_lamps .., fl5_contacts .., k1.sqt (s1 _ _ hp) hn, k2.sqt (s2 _ _ upd_same) hs, k4.sqt p4 htr, k6.sqt p6 htl, k8.sqt p8 htc, k4.rows p4 (rr.mono s4), k6.rows p6 (rl.mono s6), k8.rows p8 (rc.mono s8)⟩
    -- _check_spans
    refine ⟨_, rfl, p, dx, _, rfl, upd_same, fl5_only _ _ _ _ _ _ (by decide +kernel), p, dx, _, b, tn, ts, tr, tl, tc, yr, yl, yc, rfl, upd_same, f5, few, ok.spR, ok.spL, fun H9 s9 => ?_⟩
    have f9 := f5.mono s9
    have hp9 := s9 _ _ (upd_same (H := H8) (a := p) (o := .ins C dx (fl5 tn ts tr tl tc)))
    -- _movers
    refine ⟨_, rfl, p, C, dx, _, _, rfl, hp9, T.cl, T.nS, f9.ls, _, rfl, p, C, dx, _, _, rfl, hp9, T.cl, T.nR, f9.lr, tr, rfl, ⟨_, f9.hr⟩, fun D4 hD4 => ?_⟩
    have lr := f9.rr.len
    rw [List.length_map] at lr
    refine lc_tup (K := K) (a := tr) (xs := yr) (fun i G => Same H9 G ∧ G D4 = some (.lst (((b.relays.map (·.nm)).take i).map V.str)))
      ⟨same_upd hD4, upd_same⟩ (fun i G _ h => Same.sqt h.1 f9.hr) ?_ ?_
    · rintro i v G hi ⟨sm, hd⟩
      obtain ⟨tt, rw_, rfl, hrow, hri⟩ := f9.rr.at hi
      rw [List.getElem?_map] at hri
      obtain ⟨r, hr1, rfl⟩ := Option.map_eq_some_iff.mp hri
      refine ⟨tt, _, rfl, Same.sqt sm hrow, rfl, _, _, rfl, _, _, rfl, _, _, rfl, rfl, rfl, ?_⟩
      refine yesT ?_
      refine ⟨_, rfl, _, hd, ?_, same_mut sm hD4, ?_⟩
      · rw [List.length_map, List.length_take]
        have := few.r
        exact szlt (by rw [List.length_map]; omega)
      · rw [upd_same, ← map_snoc, List.take_add_one, List.getElem?_map, hr1]
        rfl
    · rintro H10 ⟨sm, hd⟩
      rw [lr, ← List.length_map (f := fun r : Sp3 => r.nm), List.take_length] at hd
      refine tup_any (.inl (sq hd)) fun t2 H11 s11 ht2 => ?_
      have s9b := sm.trans s11
      refine cat_any (Same.sqt s9b f9.hs) ht2 (by rw [List.length_map, List.length_map, List.length_map]; have := few.s; have := few.r; omega) fun tm H12 s12 htm => ?_
      have s9c := s9b.trans s12
      rw [← List.map_append] at htm
      refine ⟨_, rfl, p, C, dx, _, rfl, s9c _ _ hp9, T.cl, T.nM, by have := fl_len5 tn ts tr tl tc; exact Nat.lt_of_le_of_lt this.1 (by decide), ?_⟩
      have kf : KeepP p H12 (upd H12 p (.ins C dx (fl6 tn ts tr tl tc tm))) := KeepP.upd
      have p12 := s9c _ _ hp9
      have f12 := f9.mono s9c
      have e12 : Same H0 (upd H12 p (.ins C dx (fl6 tn ts tr tl tc tm))) := same_mut ((e8.trans s9).trans s9c) np
      have f13 : Fl K (upd H12 p (.ins C dx (fl6 tn ts tr tl tc tm))) (fl6 tn ts tr tl tc tm) b tn ts tr tl tc yr yl yc :=
        ⟨by rw [fl6_old _ _ _ _ _ _ (by decide +kernel)]; exact fl5_nodes .., by rw [fl6_old _ _ _ _ _ _ (by decide +kernel)]; exact fl5_switches .., by rw [fl6_old _ _ _ _ _ _ (by decide +kernel)]; exact fl5_relays .., by rw [fl6_old _ _ _ _ _ _ (by decide +kernel)]; exact fl5_lamps ..,
          by rw [fl6_old _ _ _ _ _ _ (by decide +kernel)]; exact fl5_contacts .., kf.sqt p12 f12.hn, kf.sqt p12 f12.hs, kf.sqt p12 f12.hr, kf.sqt p12 f12.hl, kf.sqt p12 f12.hc, kf.rows p12 f12.rr, kf.rows p12 f12.rl, kf.rows p12 f12.rc⟩
      have lm : (fl6 tn ts tr tl tc tm).lookup ("_movers" : Str) = some (.ref tm) := by rw [fl6_at, if_pos rfl]
      have hm : SqT K (upd H12 p (.ins C dx (fl6 tn ts tr tl tc tm))) tm (b.movers.map V.str) := kf.sqt p12 htm
      -- _check_names, _check_contacts
      refine ⟨_, rfl, p, dx, _, rfl, upd_same, fl6_only _ _ _ _ _ _ _ (by decide +kernel), p, dx, _, b, tn, ts, tr, tl, tc, tm, yr, yl, yc, rfl, upd_same, f13, lm, hm, few, ok, fun H14 s14 => ?_⟩
      have hp14 := s14 _ _ (upd_same (H := H12) (a := p) (o := .ins C dx (fl6 tn ts tr tl tc tm)))
      have f14 := f13.mono s14
      refine ⟨_, rfl, p, dx, _, rfl, hp14, fl6_only _ _ _ _ _ _ _ (by decide +kernel), p, dx, _, b, tn, ts, tr, tl, tc, tm, yr, yl, yc, rfl, hp14, f14, lm, Same.sqt s14 hm, ok.ct, ok.cts, fun H15 s15 => ?_⟩
      exact q H15 ((e12.trans s14).trans s15) ⟨dx, _, tn, ts, tr, tl, tc, tm, yr, yl, yc, s15 _ _ hp14, f14.mono s15, lm, Same.sqt (s14.trans s15) hm, fl6_only _ _ _ _ _ _⟩
/-! ### _law_row -/
def spRow : Sp := fun vs H Q _ => ∃ (c : Int) (m : Nat), vs = [.int c, .int m] ∧ m ≤ 100000 ∧ ∀ H' p (ns : List Int), Same H H' → H p = none → H' p = some (.lst (ns.map V.int)) → ns.length = m → Nums ns → Q (.ref p) H'
theorem scRow : FnScope ["cell", "many", "row", "rest", "k", "mixed"] ["cell", "many"] (defScope sLawRow) := ⟨rfl, rfl, rfl, by decide +kernel, rfl, by decide +kernel, by decide +kernel⟩
theorem ok_row {f : Addr} {fd : FuncData} {k : Nat} (F : Fun K "_law_row" "_law_row" sLawRow f fd) (ma : mg "abs" = none) (mi : mg "int" = none) (mr : mg "range" = none) : FnOk P w K mg base CX0 (k + 1) f fd ["cell", "many"] spRow := by
  refine F.ok scRow (fun vs H Q E h => ?_) (fun cdv A outer s H vs Q E hr h => ?_)
  · obtain ⟨c, m, rfl, _⟩ := h
    rfl
  · obtain ⟨c, m, rfl, hm, q⟩ := h
    refine ⟨_, pss_cons (ps_set (i := 2) scRow.nd rfl (.inl rfl) (pe_lst pa_nil))
      (pss_cons (ps_set (i := 3) scRow.nd rfl (.inl rfl) (pe_callB call_abs (by rfl) ma (by decide +kernel) (pa_cons (pe_callTy call_int1 (by rfl) mi (by decide +kernel) (pa_cons (pv 0) pa_nil)) pa_nil)))
      (pss_cons (ps_for PassesOwn.never rfl (pi_range1 rfl mr (pa_cons (pv 1) pa_nil)) (pg_name (i := 4) scRow.nd rfl (.inl rfl))
        (pss_one (ps_if (pt_cmpR op_ge (pe_callB call_abs (by rfl) ma (by decide +kernel) (pa_cons (pe_callTy call_int1 (by rfl) mi (by decide +kernel) (pa_cons (pv 0) pa_nil)) pa_nil)) (pe_op op_pow pe_int pe_int) (nomark _))
          (pss_cons (ps_expr (pe_bm PySem.F.plainAttrs_list PySem.F.slot_list_append PySem.F.type_list_append mt_append (pv 2) (pa_cons (pe_op op_mod (pe_callTy call_int1 (by rfl) mi (by decide +kernel) (pa_cons (pv 3) pa_nil)) pe_int) pa_nil)))
          (pss_one (ps_set (i := 3) scRow.nd rfl (.inl rfl) (pe_op op_fdiv (pv 3) pe_int))))
          (pss_cons (ps_set (i := 5) scRow.nd rfl (.inl rfl) (pe_op op_mod (pe_callTy call_int1 (by rfl) mi (by decide +kernel) (pa_cons (pe_op op_add (pe_op op_mul (pv 3) pe_int) (pe_op op_mul (pe_op op_add (pv 4) pe_int) pe_int)) pa_nil)) pe_int))
          (pss_cons (ps_set (i := 5) scRow.nd rfl (.inl rfl) (pe_op op_mod (pe_callTy call_int1 (by rfl) mi (by decide +kernel) (pa_cons (pe_op op_add (pe_op op_mul (pv 5) pe_int) (pe_op op_mul pe_int (pe_op op_add (pv 4) pe_int))) pa_nil)) pe_int))
          (pss_one (ps_expr (pe_bm PySem.F.plainAttrs_list PySem.F.slot_list_append PySem.F.type_list_append mt_append (pv 2) (pa_cons (pe_op op_mod (pe_callTy call_int1 (by rfl) mi (by decide +kernel) (pa_cons (pv 5) pa_nil)) pe_int) pa_nil)))))))))
      (pss_one (ps_ret (pv 2))))), ?_⟩
    have e18 : (10 : Int) ^ (18 : Int).toNat = 1000000000000000000 := by decide +kernel
    refine ⟨Nat.zero_le _, fun o no => ?_⟩
    have s1 : Same H (upd H o (.lst [])) := same_upd no
    refine ⟨_, rfl, .inl ⟨_, rfl, _, rfl, ?_⟩⟩
    generalize hb : (if c < 0 then -c else c) = ab
    have hb0 : 0 ≤ ab := by
      rw [← hb]
      split <;> omega
    refine ⟨_, rfl, (m : Int), rfl, by omega, by omega, ?_⟩
    refine for_range (lo := 0) (n := (m : Int).toNat) (fun i σ H2 => ∃ (r : Int) (ns : List Int) (z4 z5 : Option V), σ = [some (.int c), some (.int m), some (.ref o), some (.int r), z4, z5] ∧ Same H H2 ∧ H2 o = some (.lst (ns.map V.int)) ∧ ns.length = i ∧ Nums ns ∧ 0 ≤ r ∧ (ab < 1000000000000000000 → r < 1000000000000000000))
      ⟨ab, [], none, none, rfl, s1, upd_same, rfl, (fun n hn => by cases hn), hb0, fun h => h⟩ ?_ ?_
    · rintro i σ H2 hi ⟨r, ns, z4, z5, rfl, sm, ho, hl, hn, hr0, hr1⟩
      refine ⟨_, rfl, .inl ⟨_, rfl, _, rfl, ?_⟩⟩
      rw [hb]
      refine ⟨_, _, rfl, rfl, ⟨by decide, by decide, by decide⟩, _, _, rfl, rfl, _, rfl, ?_⟩
      rw [e18]
      refine ite2 (fun hbig => ?_) (fun hsm => ?_)
      · refine ⟨.ref o, rfl, .inl ⟨rfl, _, sq ho⟩, _, rfl, .inl ⟨_, rfl, _, _, rfl, rfl, (by show (0 : Int) < 1009; decide), o, _, _, rfl, rfl, ho, ?_, ?_⟩⟩
        · rw [List.length_map]
          exact szlt (by omega)
        · have hbig' : (1000000000000000000 : Int) ≤ ab := of_decide_eq_true hbig
          refine ⟨_, rfl, _, _, rfl, rfl, ⟨by decide, by decide⟩, r / 1009, ns ++ [r % 1009], _, _, rfl, same_mut sm no, ?_, ?_, hn.snoc (by omega) (by omega), by omega, fun z => by omega⟩
          · rw [upd_same, map_snoc]
          · rw [List.length_append, hl]
            rfl
      · have hsm' : ab < 1000000000000000000 := by
          have := of_decide_eq_false (Bool.eq_false_iff.mpr hsm)
          omega
        have hr2 := hr1 hsm'
        have b64 : (2 : Int) ^ 64 = 18446744073709551616 := by decide
        refine ⟨_, rfl, _, _, rfl, rfl, .inl ⟨by omega, by omega⟩, _, rfl, _, _, rfl, rfl, _, _, rfl, rfl, .inr ⟨by decide, by decide⟩, _, _, rfl, rfl, .inl ⟨_, rfl, _, _, rfl, rfl, (by show (0 : Int) < 2147483647; decide), ?_⟩⟩
        refine ⟨_, rfl, _, _, rfl, rfl, .inr ⟨by decide, by decide⟩, _, rfl, _, _, rfl, rfl, _, _, rfl, rfl, .inl ⟨by decide, by decide⟩, _, _, rfl, rfl, .inl ⟨_, rfl, _, _, rfl, rfl, (by show (0 : Int) < 2147483629; decide), ?_⟩⟩
        refine ⟨.ref o, rfl, .inl ⟨rfl, _, sq ho⟩, _, rfl, .inl ⟨_, rfl, _, _, rfl, rfl, (by show (0 : Int) < 1009; decide), o, _, _, rfl, rfl, ho, ?_, ?_⟩⟩
        · rw [List.length_map]
          exact szlt (by omega)
        · refine ⟨r, ns ++ [(((r * 48271 + (0 + (i : Int) + 1) * 69621) % 2147483647 * 16807 + 271 * (0 + (i : Int) + 3)) % 2147483629) % 1009], _, _, rfl, same_mut sm no, ?_, ?_, hn.snoc (Int.emod_nonneg _ (by decide)) (Int.emod_lt_of_pos _ (by decide)), hr0, hr1⟩
          · rw [upd_same, map_snoc]
          · rw [List.length_append, hl]
            rfl
    · rintro σ H2 ⟨r, ns, z4, z5, rfl, sm, ho, hl, hn, hr0, hr1⟩
      exact ⟨.ref o, rfl, q H2 o ns sm no ho (by omega) hn⟩
/-! ### _law_numbers -/
def spNumbers (K : PySem.W.Frag) : Sp := fun vs H Q _ => ∃ (a : Addr) (cs : List Int) (m : Nat), vs = [.ref a, .int m] ∧ SqL K H a (cs.map V.int) ∧ cs.length ≤ 63 ∧ m ≤ 5000 ∧
  ∀ H' p (ns : List Int), Same H H' → H p = none → H' p = some (.lst (ns.map V.int)) → ns.length = m → Nums ns → Q (.ref p) H'
theorem scNumbers : FnScope ["script", "many", "cells", "each", "numbers", "cell", "number"] ["script", "many"] (defScope sLawNumbers) := ⟨rfl, rfl, rfl, by decide +kernel, rfl, by decide +kernel, by decide +kernel⟩
theorem ok_numbers {f fR : Addr} {fd fdR : FuncData} {k : Nat} (F : Fun K "_law_numbers" "_law_numbers" sLawNumbers f fd) (kR : PySem.W.keepIn K (.ref fR) = true) (bR : Binds K fdR ["cell", "many"] []) (gR : mg "_law_row" = some (.ref fR))
    (GR : FnOk P w K mg base CX0 (k + 1) fR fdR ["cell", "many"] spRow) (mx : mg "max" = none) (ml : mg "len" = none) : FnOk P w K mg base CX0 (k + 2) f fd ["script", "many"] (spNumbers K) := by
  refine F.ok scNumbers (fun vs H Q E h => ?_) (fun cdv A outer s H vs Q E hr h => ?_)
  · obtain ⟨a, cs, m, rfl, _⟩ := h
    rfl
  · obtain ⟨a, cs, m, rfl, hS, hlen, hm, q⟩ := h
    refine ⟨_, pss_cons (ps_set (i := 2) scNumbers.nd rfl (.inl rfl) (pe_slice sl_list (pv 0) po_none (po_some pe_int)))
      (pss_cons (ps_set (i := 3) scNumbers.nd rfl (.inl rfl) (pe_op op_add pe_int (pe_op op_fdiv (pv 1) (pe_callB (call_max2 rfl) (by rfl) mx (by decide +kernel) (pa_cons pe_int (pa_cons (pe_callB call_len_seq (by rfl) ml PySem.boot_len (pa_cons (pv 2) pa_nil)) pa_nil))))))
      (pss_cons (ps_set (i := 4) scNumbers.nd rfl (.inl rfl) (pe_lst pa_nil))
      (pss_cons (ps_for PassesOwn.never rfl (pi_list (pv 2)) (pg_name (i := 5) scNumbers.nd rfl (.inl rfl))
        (pss_one (ps_for PassesOwn.never rfl (pi_list (pe_call GR hr (by rfl) gR kR bR .nil pass0 (pa_cons (pv 5) (pa_cons (pv 3) pa_nil)))) (pg_name (i := 6) scNumbers.nd rfl (.inl rfl))
          (pss_one (ps_expr (pe_bm PySem.F.plainAttrs_list PySem.F.slot_list_append PySem.F.type_list_append mt_append (pv 4) (pa_cons (pv 6) pa_nil)))))))
      (pss_cons (ps_while PassesOwn.never (pt_cmpR op_lt (pe_callB call_len_seq (by rfl) ml PySem.boot_len (pa_cons (pv 4) pa_nil)) (pv 1) (nomark _))
          (pss_one (ps_expr (pe_bm PySem.F.plainAttrs_list PySem.F.slot_list_append PySem.F.type_list_append mt_append (pv 4) (pa_cons pe_int pa_nil)))))
      (pss_one (ps_ret (pe_slice sl_list (pv 4) po_none (po_some (pv 1))))))))), ?_⟩
    -- cells = script[:63]
    refine ⟨_, rfl, 63, rfl, a, _, rfl, hS, fun c nc => ?_⟩
    rw [show ((63 : Int)) = ((63 : Nat) : Int) from rfl, cut_list, List.take_of_length_le (by rw [List.length_map]; exact hlen)]
    have s1 : Same H (upd H c (.lst (cs.map V.int))) := same_upd nc
    -- each = 1 + many // max(1, len(cells))
    refine ⟨_, rfl, _, rfl, c, _, rfl, .inl (sq upd_same), _, _, rfl, ?_⟩
    generalize hd : (if ((cs.map V.int).length : Int) > 1 then ((cs.map V.int).length : Int) else 1) = dv
    have hd1 : 1 ≤ dv ∧ dv ≤ 63 := by
      rw [List.length_map] at hd
      rw [← hd]
      split <;> omega
    refine ⟨_, _, rfl, rfl, ⟨by omega, by omega⟩, _, _, rfl, rfl, ?_⟩
    have he : ∃ e : Nat, (1 + (m : Int) / dv) = (e : Int) ∧ e ≤ 5001 := by
      have h0 : 0 ≤ (m : Int) / dv := Int.ediv_nonneg (by omega) (by omega)
      have h1 : (m : Int) / dv ≤ m := Int.ediv_le_self _ (by omega)
      exact ⟨(1 + (m : Int) / dv).toNat, by omega, by omega⟩
    obtain ⟨e, ee, he⟩ := he
    -- numbers = []
    refine ⟨Nat.zero_le _, fun o no => ?_⟩
    have nco : c ≠ o := ne_of_none upd_same no
    have no' : H o = none := s1.free no
    refine ⟨.ref c, rfl, c, rfl, ⟨_, sq (by rw [upd_ne nco]; exact upd_same)⟩, for_list (K := K) (a := c) (xs := cs.map V.int) (fun i σ H2 => ∃ (ns : List Int) (z5 z6 : Option V), σ = [some (.ref a), some (.int m), some (.ref c), some (.int (1 + (m : Int) / dv)), some (.ref o), z5, z6] ∧ Same H H2 ∧ H2 c = some (.lst (cs.map V.int)) ∧ H2 o = some (.lst (ns.map V.int)) ∧ ns.length = i * e ∧ Nums ns)
      ⟨[], none, none, rfl, same_mut s1 no', by rw [upd_ne nco]; exact upd_same, upd_same, by rw [Nat.zero_mul]; rfl, fun n hn => by cases hn⟩ (fun i σ H2 _ ⟨_, _, _, _, _, hc, _⟩ => sq hc) ?_ ?_⟩
    · rintro i y σ H2 hi ⟨ns, z5, z6, rfl, sm, hc, ho, hl, hn⟩
      have hil : i < (cs.map V.int).length := (List.getElem?_eq_some_iff.mp hi).1
      rw [List.length_map] at hil
      obtain ⟨z, rfl⟩ : ∃ z, y = V.int z := by
        rw [List.getElem?_map, List.getElem?_eq_getElem hil] at hi
        exact ⟨_, (Option.some.inj hi).symm⟩
      have hie : i * e ≤ 63 * 5001 := Nat.mul_le_mul (by omega) he
      refine ⟨_, rfl, _, rfl, z, e, congrArg (fun t => [V.int z, V.int t]) ee, by omega, fun H3 r rs s3 nr hr3 hrl hrn => ?_⟩
      have hc3 := s3 _ _ hc
      have ho3 := s3 _ _ ho
      have nro : r ≠ o := fun z => by
        rw [z, ho] at nr
        cases nr
      refine ⟨r, rfl, ⟨_, sq hr3⟩, for_list (K := K) (a := r) (xs := rs.map V.int) (fun j σ H4 => ∃ (z6 : Option V), σ = [some (.ref a), some (.int m), some (.ref c), some (.int (1 + (m : Int) / dv)), some (.ref o), some (.int z), z6] ∧ Same H H4 ∧ H4 c = some (.lst (cs.map V.int)) ∧ H4 r = some (.lst (rs.map V.int)) ∧ H4 o = some (.lst ((ns ++ rs.take j).map V.int)))
        ⟨z6, rfl, sm.trans s3, hc3, hr3, by rw [List.take_zero, List.append_nil]; exact ho3⟩ (fun j σ H4 _ ⟨_, _, _, _, h4, _⟩ => sq h4) ?_ ?_⟩
      · rintro j y σ H4 hj ⟨w6, rfl, s4, hc4, hr4, ho4⟩
        have hjl : j < (rs.map V.int).length := (List.getElem?_eq_some_iff.mp hj).1
        rw [List.length_map] at hjl
        obtain ⟨n, hnj, rfl⟩ : ∃ n, rs[j]? = some n ∧ y = V.int n := by
          rw [List.getElem?_map, List.getElem?_eq_getElem hjl] at hj
          exact ⟨_, List.getElem?_eq_getElem hjl, (Option.some.inj hj).symm⟩
        refine ⟨.ref o, rfl, .inl ⟨rfl, _, sq ho4⟩, _, rfl, o, _, _, rfl, rfl, ho4, ?_, ?_⟩
        · rw [List.length_map, List.length_append, List.length_take]
          exact szlt (by omega)
        · refine ⟨_, rfl, same_mut s4 no', by rw [upd_ne nco]; exact hc4, by rw [upd_ne nro]; exact hr4, ?_⟩
          rw [upd_same, ← map_snoc, List.append_assoc, List.take_add_one, hnj]
          rfl
      · rintro σ H4 ⟨w6, rfl, s4, hc4, hr4, ho4⟩
        rw [List.length_map, List.take_length] at ho4
        refine ⟨ns ++ rs, _, _, rfl, s4, hc4, ho4, ?_, fun n hn2 => ?_⟩
        · rw [List.length_append, hl, hrl, Nat.succ_mul]
        · rcases List.mem_append.mp hn2 with h | h
          · exact hn n h
          · exact hrn n h
    · rintro σ H2 ⟨ns, z5, z6, rfl, sm, hc, ho, hl, hn⟩
      rw [List.length_map] at hl
      have hle : ns.length ≤ 63 * 5001 := by
        rw [hl]
        exact Nat.mul_le_mul hlen he
      -- while len(numbers) < many
      refine while_by (fun σ H3 => ∃ ns' : List Int, σ = [some (.ref a), some (.int m), some (.ref c), some (.int (1 + (m : Int) / dv)), some (.ref o), z5, z6] ∧ Same H H3 ∧ H3 o = some (.lst (ns'.map V.int)) ∧ ns'.length ≤ 400000 ∧ Nums ns')
        (fun σ H3 => match H3 o with | some (.lst xs) => m - xs.length | _ => 0) ⟨ns, rfl, sm, ho, by omega, hn⟩ ?_ ?_
      · rintro σ H3 ⟨ns', rfl, s3, ho3, hl3, hn3⟩
        refine ⟨.ref o, rfl, o, _, rfl, .inl (sq ho3), _, rfl, _, _, rfl, rfl, _, rfl, ?_⟩
        rw [List.length_map]
        refine ite2 (fun hlt => ?_) (fun hge => ?_)
        · have hlt' : (ns'.length : Int) < m := of_decide_eq_true hlt
          refine ⟨.ref o, rfl, .inl ⟨rfl, _, sq ho3⟩, o, _, _, rfl, rfl, ho3, by rw [List.length_map]; exact szlt (by omega), ?_⟩
          refine ⟨⟨ns' ++ [0], rfl, same_mut s3 no', by rw [upd_same, map_snoc], by rw [List.length_append]; show ns'.length + 1 ≤ 400000; omega, hn3.snoc (by decide) (by decide)⟩, ?_⟩
          rw [upd_same, ho3]
          show m - (ns'.map V.int ++ [V.int 0]).length < m - (ns'.map V.int).length
          rw [List.length_append, List.length_map]
          show m - (ns'.length + 1) < m - ns'.length
          omega
        · have hge' : ¬ (ns'.length : Int) < m := of_decide_eq_false (Bool.eq_false_iff.mpr hge)
          refine ⟨_, rfl, _, rfl, (m : Int), rfl, o, _, rfl, sq ho3, fun p np => ?_⟩
          rw [cut_list, ← List.map_take]
          refine q _ p (ns'.take m) (same_mut s3 (s3.free np)) (s3.free np) upd_same (by rw [List.length_take]; omega) fun n h => hn3 n (List.mem_of_mem_take h)
      · rintro σ H Q Q' hq ⟨v, hv, p, ys, e0, hs, v1, hv1, i, j, e1, e2, k, e3, r⟩
        exact ⟨v, hv, p, ys, e0, hs, v1, hv1, i, j, e1, e2, k, e3, hq _ _ r⟩
/-! ### _law_names: names that differ in one place -/
def getI (ns : List Int) (i : Nat) : Int := ns.getD i 0
def chK (i : Int) : Nat := alph.getD i.toNat 0
theorem at_chK (i : Int) (h0 : 0 ≤ i) (h1 : i < 36) : chK i ∈ alph ∧ atI ("abcdefghijklmnopqrstuvwxyz0123456789" : Str).cps.toList i = some (chK i) := by
  have hl : i.toNat < alph.length := by rw [alph_len]; omega
  have e : chK i = alph[i.toNat] := by
    unfold chK
    rw [List.getD_eq_getElem?_getD, List.getElem?_eq_getElem hl]
    rfl
  have e2 := atI_nat (xs := alph) (j := i.toNat) (List.getElem?_eq_getElem hl)
  rw [Int.toNat_of_nonneg h0] at e2
  exact ⟨by rw [e]; exact List.getElem_mem hl, by rw [e]; exact e2⟩
theorem alph_nodup : alph.Nodup := by decide +kernel
theorem chK_inj {i j : Int} (hi : 0 ≤ i) (hi2 : i < 36) (hj : 0 ≤ j) (hj2 : j < 36) (e : chK i = chK j) : i = j := by
  have li : i.toNat < alph.length := by rw [alph_len]; omega
  have lj : j.toNat < alph.length := by rw [alph_len]; omega
  unfold chK at e
  rw [List.getD_eq_getElem?_getD, List.getD_eq_getElem?_getD, List.getElem?_eq_getElem li, List.getElem?_eq_getElem lj] at e
  have := (List.getElem_inj alph_nodup).mp (show alph[i.toNat] = alph[j.toNat] from e)
  omega
def one (c : Nat) : Str := ⟨#[c]⟩
theorem one_al2 {c : Nat} (h : c ∈ alph) : Al (one c) := fun d hd => by
  have : d = c := by simpa [one] using hd
  rw [this]
  exact h
theorem nodup_map {α β : Type} (f : α → β) : ∀ xs : List α, (∀ x ∈ xs, ∀ y ∈ xs, f x = f y → x = y) → xs.Nodup → (xs.map f).Nodup
  | [], _, _ => List.nodup_nil
  | x :: xs, h, nd => by
    rw [List.nodup_cons] at nd
    rw [List.map_cons, List.nodup_cons]
    refine ⟨fun hm => ?_, nodup_map f xs (fun a ha b hb => h a (List.mem_cons_of_mem _ ha) b (List.mem_cons_of_mem _ hb)) nd.2⟩
    obtain ⟨y, hy, e⟩ := List.mem_map.mp hm
    have := h y (List.mem_cons_of_mem _ hy) x List.mem_cons_self e
    exact nd.1 (this ▸ hy)
theorem at_get {ns : List Int} (hn : Nums ns) {i : Nat} (h : i < ns.length) : 0 ≤ getI ns i ∧ getI ns i < 1009 ∧ ∀ z : Int, z = (i : Int) → atI (ns.map V.int) z = some (.int (getI ns i)) := by
  have e : getI ns i = ns[i] := by
    unfold getI
    rw [List.getD_eq_getElem?_getD, List.getElem?_eq_getElem h]
    rfl
  have hm := hn _ (List.getElem_mem h)
  refine ⟨by rw [e]; exact hm.1, by rw [e]; exact hm.2, fun z hz => ?_⟩
  rw [hz, e]
  exact atI_nat (by rw [List.getElem?_map, List.getElem?_eq_getElem h]; rfl)
theorem at_ch (i : Int) (h0 : 0 ≤ i) (h1 : i < 36) : ∃ c, c ∈ alph ∧ atI ("abcdefghijklmnopqrstuvwxyz0123456789" : Str).cps.toList i = some c := by
  obtain ⟨c, hc, _, e⟩ := at_in alph i h0 (by rw [alph_len]; exact h1)
  exact ⟨c, hc, e⟩
theorem one_al {c : Nat} (h : c ∈ alph) : (⟨#[c]⟩ : Str).length = 1 ∧ Al (⟨#[c]⟩ : Str) := ⟨rfl, fun d hd => by
  have : d = c := by simpa using hd
  rw [this]
  exact h⟩
theorem name_of {rest : Str} {P : Int} {c : Nat} (hP : 0 ≤ P) (hr : Al rest) (hl : rest.length ≤ 11) (hc : c ∈ alph) : Nm (cutS rest none (some P) ++ ⟨#[c]⟩ ++ cutS rest (some P) none) := by
  obtain ⟨p, rfl⟩ : ∃ p : Nat, P = (p : Int) := ⟨P.toNat, (Int.toNat_of_nonneg hP).symm⟩
  have h1 := cut_take rest p
  have h2 := cut_drop rest p
  have l : (List.take p rest.cps.toList ++ List.drop p rest.cps.toList).length = rest.length := by rw [List.take_append_drop, len_tl]
  rw [List.length_append] at l
  refine ⟨?_, ?_, ?_⟩
  · rw [app_len, app_len]
    show 1 ≤ _ + 1 + _
    omega
  · rw [app_len, app_len, len_tl (cutS rest none _), len_tl (cutS rest _ none), h1, h2]
    show _ + 1 + _ ≤ 12
    omega
  · refine Al.app (Al.app (fun d hd => ?_) (one_al hc).2) (fun d hd => ?_)
    · rw [h1] at hd
      exact hr d (List.mem_of_mem_take hd)
    · rw [h2] at hd
      exact hr d (List.mem_of_mem_drop hd)
def nameB (rest : Str) (P : Int) (y : Int) (k : Nat) : Str := cutS rest none (some P) ++ one (chK ((y + 5 * (k : Int)) % 36)) ++ cutS rest (some P) none
theorem nameB_nm {rest : Str} {P y : Int} (hP : 0 ≤ P) (hr : Al rest) (hl : rest.length ≤ 11) (k : Nat) : Nm (nameB rest P y k) := name_of hP hr hl (at_chK _ (Int.emod_nonneg _ (by decide)) (Int.emod_lt_of_pos _ (by decide))).1
theorem nameB_inj {rest : Str} {P y : Int} {i j : Nat} (hi : i < 36) (hj : j < 36) (e : nameB rest P y i = nameB rest P y j) : i = j := by
  have e2 := congrArg (fun z : Str => z.cps.toList) e
  unfold nameB at e2
  rw [app_tl, app_tl, app_tl, app_tl] at e2
  have e3 := List.append_cancel_left (List.append_cancel_right e2)
  have e4 : chK ((y + 5 * (i : Int)) % 36) = chK ((y + 5 * (j : Int)) % 36) := by
    have : ([chK ((y + 5 * (i : Int)) % 36)] : List Nat) = [chK ((y + 5 * (j : Int)) % 36)] := e3
    exact List.head_eq_of_cons_eq this
  have e5 := chK_inj (Int.emod_nonneg _ (by decide)) (Int.emod_lt_of_pos _ (by decide)) (Int.emod_nonneg _ (by decide)) (Int.emod_lt_of_pos _ (by decide)) e4
  omega
theorem namesB_nodup {rest : Str} {P y : Int} {m : Nat} (hm : m ≤ 36) : ((List.range m).map (nameB rest P y)).Nodup :=
  nodup_map _ _ (fun i hi j hj e => nameB_inj (by have := List.mem_range.mp hi; omega) (by have := List.mem_range.mp hj; omega) e) List.nodup_range
def spNames (K : PySem.W.Frag) : Sp := fun vs H Q _ => ∃ (x y : Int) (m : Nat), vs = [.int x, .int y, .int m] ∧ (0 ≤ x ∧ x < 1009) ∧ (0 ≤ y ∧ y < 1009) ∧ m ≤ 36 ∧
  ∀ H' p (zs : List Str), Same H H' → H p = none → H' p = some (.lst (zs.map V.str)) → zs.length = m → (∀ z ∈ zs, Nm z) → zs.Nodup → Q (.ref p) H'
theorem scNames : FnScope ["number", "other", "many", "chars", "size", "rest", "place", "k"] ["number", "other", "many"] (defScope sLawNames) := ⟨rfl, rfl, rfl, by decide +kernel, rfl, by decide +kernel, by decide +kernel⟩
theorem ok_names {f : Addr} {fd : FuncData} {k : Nat} (F : Fun K "_law_names" "_law_names" sLawNames f fd) (mi : mg "int" = none) (mr : mg "range" = none) : FnOk P w K mg base CX0 (k + 1) f fd ["number", "other", "many"] (spNames K) := by
  refine F.ok scNames (fun vs H Q E h => ?_) (fun cdv A outer s H vs Q E hr h => ?_)
  · obtain ⟨x, y, m, rfl, _⟩ := h
    rfl
  · obtain ⟨x, y, m, rfl, ⟨hx0, hx1⟩, ⟨hy0, hy1⟩, hm, q⟩ := h
    refine ⟨_, pss_cons (ps_set (i := 3) scNames.nd rfl (.inr rfl) pe_str)
      (pss_cons (ps_set (i := 4) scNames.nd rfl (.inl rfl) (pe_ix ix_list (pe_lst (pa_cons pe_int (pa_cons pe_int (pa_cons pe_int (pa_cons pe_int pa_nil))))) (pe_op op_mod (pe_callTy call_int1 (by rfl) mi (by decide +kernel) (pa_cons (pv 0) pa_nil)) pe_int) (fun _ _ => rfl)))
      (pss_cons (ps_set (i := 5) scNames.nd rfl (.inr rfl) (pe_bm PySem.F.plainAttrs_str PySem.F.slot_str_join PySem.F.type_str_join mt_join pe_str (pa_cons
        (pe_lc (own := [("k", 7)]) (g := gName 7) (tt := tYes) rfl scNames.nd (pi_range1 rfl mr (pa_cons (pv 4) pa_nil)) (blkOk_by (N := ["number", "other", "many", "chars", "size", "rest", "place", "k"]) (sc := defScope sLawNames) (by decide +kernel)) (fun _ _ _ _ _ => pg_name (i := 7) scNames.nd rfl (Or.inl rfl)) (fun _ _ _ _ _ => pts_nil)
          (fun _ _ _ _ _ => pe_ix ix_str (pv 3) (pe_op op_mod (pe_callTy call_int1 (by rfl) mi (by decide +kernel) (pa_cons (pe_op op_add (pe_op op_add (pv 1) (pe_op op_mul (pe_op op_mul pe_int (pv 7)) (pv 7))) (pe_op op_mul (pv 0) (pv 7))) pa_nil)) pe_int) (fun _ _ => rfl))) pa_nil)))
      (pss_cons (ps_set (i := 6) scNames.nd rfl (.inr rfl) (pe_op op_mod (pe_callTy call_int1 (by rfl) mi (by decide +kernel) (pa_cons (pe_op op_add (pe_op op_fdiv (pv 0) pe_int) (pv 1)) pa_nil)) (pe_op op_add (pv 4) pe_int)))
      (pss_one (ps_ret (pe_lc (own := [("k", 7)]) (g := gName 7) (tt := tYes) rfl scNames.nd (pi_range1 rfl mr (pa_cons (pv 2) pa_nil)) (blkOk_by (N := ["number", "other", "many", "chars", "size", "rest", "place", "k"]) (sc := defScope sLawNames) (by decide +kernel)) (fun _ _ _ _ _ => pg_name (i := 7) scNames.nd rfl (Or.inl rfl)) (fun _ _ _ _ _ => pts_nil)
          (fun _ _ _ _ _ => pe_op op_add_str (pe_op op_add_str (pe_slice sl_str (pv 5) po_none (po_some (pv 6))) (pe_ix ix_str (pv 3) (pe_op op_mod (pe_callTy call_int1 (by rfl) mi (by decide +kernel) (pa_cons (pe_op op_add (pv 1) (pe_op op_mul pe_int (pv 7))) pa_nil)) pe_int) (fun _ _ => rfl))) (pe_slice sl_str (pv 5) (po_some (pv 6)) po_none)))))))), ?_⟩
    have b64 : (2 : Int) ^ 64 = 18446744073709551616 := by decide
    -- size
    refine ⟨by show 4 ≤ sizeLine; decide, fun l nl => ?_⟩
    have s1 : Same H (upd H l (.lst [.int 0, .int 1, .int 3, .int 11])) := same_upd nl
    refine ⟨_, rfl, .inl ⟨_, rfl, _, _, rfl, rfl, (by show (0 : Int) < 4; decide), ?_⟩⟩
    obtain ⟨sz, hsz, hat⟩ : ∃ sz : Nat, sz ≤ 11 ∧ atI ([.int 0, .int 1, .int 3, .int 11] : List V) (x % 4) = some (.int sz) := by
      have h0 := Int.emod_nonneg x (show (4 : Int) ≠ 0 by decide)
      have h1 := Int.emod_lt_of_pos x (show (0 : Int) < 4 by decide)
      have : x % 4 = 0 ∨ x % 4 = 1 ∨ x % 4 = 2 ∨ x % 4 = 3 := by omega
      rcases this with e | e | e | e <;> rw [e]
      · exact ⟨0, by decide, rfl⟩
      · exact ⟨1, by decide, rfl⟩
      · exact ⟨3, by decide, rfl⟩
      · exact ⟨11, by decide, rfl⟩
    refine ⟨l, _, _, _, rfl, rfl, sq upd_same, hat, ?_⟩
    -- rest = ''.join([..])
    refine ⟨rfl, _, rfl, (sz : Int), rfl, by omega, by omega, fun D hD => ?_⟩
    generalize hH1 : upd H l (.lst [.int 0, .int 1, .int 3, .int 11]) = H1 at *
    refine lc_range (lo := 0) (n := (sz : Int).toNat) (fun i H2 => ∃ zs : List Str, Same H1 H2 ∧ H2 D = some (.lst (zs.map V.str)) ∧ zs.length = i ∧ ∀ z ∈ zs, z.length = 1 ∧ Al z)
      ⟨[], same_upd hD, upd_same, rfl, fun z hz => by cases hz⟩ ?_ ?_
    · rintro i H2 hi ⟨zs, sm, hz, hl, ha⟩
      refine ⟨rfl, ?_⟩
      refine yesT ?_
      refine ⟨_, rfl, _, rfl, _, rfl, _, _, rfl, rfl, .inl ⟨by decide, by decide⟩, _, rfl, _, _, rfl, rfl, .inr ⟨by omega, by omega⟩, _, _, rfl, rfl, _, rfl, _, rfl, _, _, rfl, rfl, .inl ⟨by omega, by omega⟩, _, _, rfl, rfl, .inl ⟨_, rfl, _, _, rfl, rfl, (by show (0 : Int) < 36; decide), ?_⟩⟩
      obtain ⟨c, hc, e⟩ := at_ch _ (Int.emod_nonneg (y + 7 * (0 + (i : Int)) * (0 + (i : Int)) + x * (0 + (i : Int))) (show (36 : Int) ≠ 0 by decide)) (Int.emod_lt_of_pos _ (by decide))
      refine ⟨_, _, c, rfl, rfl, by decide, e, _, hz, by rw [List.length_map]; exact szlt (by omega), zs ++ [⟨#[c]⟩], same_mut sm hD, by rw [upd_same, map_snoc], by rw [List.length_append, hl]; rfl, fun z hz => ?_⟩
      rcases List.mem_append.mp hz with h | h
      · exact ha z h
      · rw [List.mem_singleton.mp h]
        exact one_al hc
    · rintro H2 ⟨zs, sm, hz, hl, ha⟩
      have jk := join_ok zs ha
      have hl' : zs.length ≤ 11 := by omega
      have hsum : (zs.map (·.length)).sum + zs.length * (0 : Nat) ≤ 16777216 := by
        have : ∀ ws : List Str, (∀ z ∈ ws, z.length = 1 ∧ Al z) → (ws.map (·.length)).sum = ws.length := by
          intro ws
          induction ws with
          | nil => intro _; rfl
          | cons z r ih =>
            intro h
            rw [List.map_cons, List.sum_cons, (h z List.mem_cons_self).1, ih fun u hu => h u (List.mem_cons_of_mem _ hu), List.length_cons]
            omega
        rw [this zs ha]
        omega
      refine ⟨_, D, zs, rfl, rfl, .inl (sq hz), hsum, ?_⟩
      rw [TL.join_eq]
      generalize Str.join "" zs = rest at jk
      obtain ⟨jl, ja⟩ := jk
      have hrl : rest.length ≤ 11 := by omega
      -- place
      refine ⟨_, rfl, _, _, rfl, rfl, ⟨by decide, by decide⟩, _, rfl, _, _, rfl, rfl, .inl ⟨_, rfl, _, rfl, _, _, rfl, rfl, _, _, rfl, rfl, (by omega), ?_⟩⟩
      have hp : 0 ≤ (x / 4 + y) % ((sz : Int) + 1) := Int.emod_nonneg _ (by omega)
      -- the names
      refine ⟨_, rfl, (m : Int), rfl, by omega, by omega, fun D2 hD2 => ?_⟩
      refine lc_range (lo := 0) (n := (m : Int).toNat) (fun i H3 => Same H2 H3 ∧ H3 D2 = some (.lst (((List.range i).map (nameB rest ((x / 4 + y) % ((sz : Int) + 1)) y)).map V.str)))
        ⟨same_upd hD2, upd_same⟩ ?_ ?_
      · rintro i H3 hi ⟨sm3, hw⟩
        refine ⟨rfl, ?_⟩
        refine yesT ?_
        have e := (at_chK ((y + 5 * (0 + (i : Int))) % 36) (Int.emod_nonneg _ (by decide)) (Int.emod_lt_of_pos _ (by decide))).2
        have lt := cutS_length rest none (some ((x / 4 + y) % ((sz : Int) + 1)))
        have ld := cutS_length rest (some ((x / 4 + y) % ((sz : Int) + 1))) none
        refine ⟨_, rfl, _, rfl, _, rfl, rest, rfl, szl (by omega), _, rfl, _, rfl, _, rfl, _, _, rfl, rfl, .inl ⟨by decide, by decide⟩, _, _, rfl, rfl, .inl ⟨_, rfl, _, _, rfl, rfl, (by show (0 : Int) < 36; decide), _, _, _, rfl, rfl, by decide, e, ?_⟩⟩
        refine ⟨_, _, rfl, rfl, szl (by show _ + 1 ≤ 1000000; omega), _, rfl, _, rfl, _, rfl, rest, rfl, szl (by omega), _, _, rfl, rfl, szl (by rw [app_len]; show _ + 1 + _ ≤ 1000000; omega), ?_⟩
        refine ⟨_, hw, by rw [List.length_map, List.length_map, List.length_range]; exact szlt (by omega), same_mut sm3 hD2, ?_⟩
        rw [upd_same, List.range_succ, List.map_append, List.map_append]
        show some (HO.lst (_ ++ [V.str (_ ++ _ ++ _)])) = _
        rw [show (0 + (i : Int)) = (i : Int) by omega]
        rfl
      · rintro H3 ⟨sm3, hw⟩
        have sA : Same H H3 := s1.trans (sm.trans sm3)
        rw [show (m : Int).toNat = m by omega] at hw
        exact q H3 D2 _ sA ((s1.trans sm).free hD2) hw (by rw [List.length_map, List.length_range]) (fun z hz => by
          obtain ⟨k, _, rfl⟩ := List.mem_map.mp hz
          exact nameB_nm hp ja hrl k) (namesB_nodup hm)
/-! ### the second family of laws: _law_loads, _law_contact -/
@[irreducible] def rModW : R2 := rI (fun _ j => 0 < j) fun i j => .int (i % j)
theorem op_modW {X : Cx} : OpR X (binaryOp .Mod) rModW := by
  unfold rModW
  exact op_mod
theorem modE {i j : Int} {H : Hp} {Q : VK} (h : 0 < j) (q : ∀ n : Nat, (n : Int) = i % j → (n : Int) < j → Q (.int (n : Int)) H) : rModW (.int i) (.int j) H Q := by
  unfold rModW
  obtain ⟨n, e⟩ : ∃ n : Nat, i % j = (n : Int) := ⟨_, (Int.toNat_of_nonneg (Int.emod_nonneg i (by omega))).symm⟩
  have hl := Int.emod_lt_of_pos i h
  refine ⟨i, j, rfl, rfl, h, ?_⟩
  show Q (.int (i % j)) H
  rw [e] at hl ⊢
  exact q n e.symm hl
theorem two_ne {n f d : Int} (hn : 2 ≤ n) (f0 : 0 ≤ f) (f1 : f < n) (d0 : 0 ≤ d) (d1 : d < n - 1) : (f + 1 + d) % n ≠ f := by
  by_cases h : f + 1 + d < n
  · rw [Int.emod_eq_of_lt (by omega) h]
    omega
  · have e : f + 1 + d = (f + 1 + d - n) + n := by omega
    rw [e, Int.add_emod_right, Int.emod_eq_of_lt (by omega) (by omega)]
    omega
theorem at_str {zs : List Str} (i : Int) (h0 : 0 ≤ i) (h1 : i < (zs.length : Int)) : ∃ z, z ∈ zs ∧ zs[i.toNat]? = some z ∧ atI (zs.map V.str) i = some (.str z) := by
  have hl : i.toNat < zs.length := by omega
  refine ⟨zs[i.toNat], List.getElem_mem hl, List.getElem?_eq_getElem hl, ?_⟩
  have e := atI_nat (xs := zs.map V.str) (j := i.toNat) (by rw [List.getElem?_map, List.getElem?_eq_getElem hl]; rfl)
  rwa [Int.toNat_of_nonneg h0] at e
theorem pick2 (s t : Str) (i : Int) (h0 : 0 ≤ i) : ∃ z, z ∈ [s, t] ∧ atI ([.str s, .str t] : List V) (i % 2) = some (.str z) := by
  have a0 := Int.emod_nonneg i (show (2 : Int) ≠ 0 by decide)
  have a1 := Int.emod_lt_of_pos i (show (0 : Int) < 2 by decide)
  obtain ⟨z, hz, _, e⟩ := at_str (zs := [s, t]) (i % 2) a0 a1
  exact ⟨z, hz, e⟩
theorem ctB_mk {zs ms : List Str} {c : Ct} (h1 : c.one ∈ zs) (h2 : c.oth ∈ zs) (h3 : c.one ≠ c.oth) (hw : c.way ∈ [bothS, forwardS]) (hm : match c.mv with | none => c.whn = makeS | some m => m ∈ ms ∧ c.whn ∈ [makeS, breakS]) : ctB zs ms c = true := by
  unfold ctB
  rw [decide_eq_true h1, decide_eq_true h2, decide_eq_false h3, decide_eq_true hw]
  cases e : c.mv with
  | none =>
    rw [e] at hm
    dsimp only at hm ⊢
    rw [decide_eq_true hm]
    rfl
  | some m =>
    rw [e] at hm
    dsimp only at hm ⊢
    rw [decide_eq_true hm.1, decide_eq_true hm.2]
    rfl
def LoadOk (zs : List Str) (r : Sp3) : Prop := r.one ∈ zs ∧ r.oth ∈ zs ∧ r.one ≠ r.oth
theorem Rows.updl {K : PySem.W.Frag} {H : Hp} {o : Addr} {l0 : List V} {ho : HO} (h : H o = some (.lst l0)) : ∀ {xs : List V} {rs : List (List V)}, Rows K H xs rs → Rows K (upd H o ho) xs rs
  | [], [], _ => True.intro
  | _ :: _, _ :: _, ⟨⟨t, e, q⟩, r⟩ => by
    refine ⟨⟨t, e, ?_⟩, r.updl h⟩
    rcases q with (q | ⟨u, q⟩) | q
    · exact .inl (.inl (by rw [upd_ne (ne_of q h (by intro z; cases z))]; exact q))
    · exact .inl (.inr ⟨u, by rw [upd_ne (ne_of q h (by intro z; cases z))]; exact q⟩)
    · exact .inr q
theorem at_strN {zs : List Str} {i : Nat} (h : i < zs.length) : ∃ z, z ∈ zs ∧ zs[i]? = some z ∧ atI (zs.map V.str) (i : Int) = some (.str z) :=
  ⟨zs[i], List.getElem_mem h, List.getElem?_eq_getElem h, atI_nat (by rw [List.getElem?_map, List.getElem?_eq_getElem h]; rfl)⟩
def spLoads (K : PySem.W.Frag) : Sp := fun vs H Q _ => ∃ (a nm nl : Addr) (ns : List Int) (at_ : Nat) (ws zs : List Str), vs = [.ref a, .int at_, .int ws.length, .ref nm, .ref nl] ∧ SqL K H a (ns.map V.int) ∧ Nums ns ∧ at_ + 2 * ws.length ≤ ns.length ∧ SqL K H nm (ws.map V.str) ∧ ws.length ≤ 1000 ∧
  SqL K H nl (zs.map V.str) ∧ 2 ≤ zs.length ∧ zs.length ≤ 1000 ∧ zs.Nodup ∧
  ∀ H' p xs (rs : List Sp3), Same H H' → H p = none → H' p = some (.lst xs) → Rows K H' xs (rs.map Sp3.row) → rs.map (·.nm) = ws → (∀ r ∈ rs, LoadOk zs r) → Q (.ref p) H'
theorem scLoads : FnScope ["numbers", "at", "many", "names", "nodes", "loads", "k", "one", "other"] ["numbers", "at", "many", "names", "nodes"] (defScope sLawLoads) := ⟨rfl, rfl, rfl, by decide +kernel, rfl, by decide +kernel, by decide +kernel⟩
theorem ok_loads {f : Addr} {fd : FuncData} {k : Nat} (F : Fun K "_law_loads" "_law_loads" sLawLoads f fd)
    (mi : mg "int" = none) (ml : mg "len" = none) (mr : mg "range" = none) : FnOk P w K mg base CX0 (k + 1) f fd ["numbers", "at", "many", "names", "nodes"] (spLoads K) := by
  refine F.ok scLoads (fun vs H Q E h => ?_) (fun cdv A outer s H vs Q E hr h => ?_)
  · obtain ⟨a, nm, nl, ns, at_, ws, zs, rfl, _⟩ := h
    rfl
  · obtain ⟨a, nm, nl, ns, at_, ws, zs, rfl, hS, hn, hat, hW, w3, hN, z2, z3, nd, q⟩ := h
    refine ⟨_, pss_cons (ps_set (i := 5) scLoads.nd rfl (.inl rfl) (pe_lst pa_nil))
      (pss_cons (ps_for PassesOwn.never rfl (pi_range1 rfl mr (pa_cons (pv 2) pa_nil)) (pg_name (i := 6) scLoads.nd rfl (.inl rfl))
        (pss_cons (ps_set (i := 7) scLoads.nd rfl (.inl rfl) (pe_op op_modW (pe_callTy call_int1 (by rfl) mi (by decide +kernel) (pa_cons (pe_ix ix_list (pv 0) (pe_op op_add (pv 1) (pe_op op_mul pe_int (pv 6))) (fun _ _ => rfl)) pa_nil)) (pe_callB call_len_seq (by rfl) ml PySem.boot_len (pa_cons (pv 4) pa_nil))))
        (pss_cons (ps_set (i := 8) scLoads.nd rfl (.inl rfl) (pe_op op_modW (pe_op op_add (pe_op op_add (pv 7) pe_int) (pe_op op_modW (pe_callTy call_int1 (by rfl) mi (by decide +kernel) (pa_cons (pe_ix ix_list (pv 0) (pe_op op_add (pe_op op_add (pv 1) (pe_op op_mul pe_int (pv 6))) pe_int) (fun _ _ => rfl)) pa_nil)) (pe_op op_sub (pe_callB call_len_seq (by rfl) ml PySem.boot_len (pa_cons (pv 4) pa_nil)) pe_int))) (pe_callB call_len_seq (by rfl) ml PySem.boot_len (pa_cons (pv 4) pa_nil))))
        (pss_one (ps_expr (pe_bm PySem.F.plainAttrs_list PySem.F.slot_list_append PySem.F.type_list_append mt_append (pv 5) (pa_cons (pe_tup (pa_cons (pe_ix ix_list (pv 3) (pv 6) (fun _ _ => rfl)) (pa_cons (pe_ix ix_list (pv 4) (pv 7) (fun _ _ => rfl)) (pa_cons (pe_ix ix_list (pv 4) (pv 8) (fun _ _ => rfl)) pa_nil)))) pa_nil)))))))
      (pss_one (ps_ret (pv 5)))), ?_⟩
    refine ⟨Nat.zero_le _, fun o no => ?_⟩
    have s1 : Same H (upd H o (.lst [])) := same_upd no
    refine ⟨_, rfl, (ws.length : Int), rfl, by omega, by omega, ?_⟩
    refine for_range (lo := 0) (n := (ws.length : Int).toNat) (fun i σ H2 => ∃ (z6 z7 z8 : Option V) (xs : List V) (rs : List Sp3), σ = [some (.ref a), some (.int at_), some (.int ws.length), some (.ref nm), some (.ref nl), some (.ref o), z6, z7, z8] ∧ Same H H2 ∧ H2 o = some (.lst xs) ∧ Rows K H2 xs (rs.map Sp3.row) ∧ rs.map (·.nm) = ws.take i ∧ ∀ r ∈ rs, LoadOk zs r)
      ⟨none, none, none, [], [], rfl, s1, upd_same, True.intro, by simp, fun r hr => by cases hr⟩ ?_ ?_
    · rintro i σ H2 hi ⟨z6, z7, z8, xs, rs, rfl, sm, ho, hR, hnm, hok⟩
      have hi2 : i < ws.length := by omega
      have hL : ((zs.map V.str).length : Int) = (zs.length : Int) := by rw [List.length_map]
      obtain ⟨a0, a1, ga⟩ := at_get hn (show at_ + 2 * i < ns.length by omega)
      obtain ⟨b0, b1, gb⟩ := at_get hn (show at_ + 2 * i + 1 < ns.length by omega)
      refine ⟨_, rfl, _, rfl, _, rfl, _, _, rfl, rfl, .inl ⟨by decide, by decide⟩, _, _, rfl, rfl, a, _, _, _, rfl, rfl, sm.seq hS, ga _ (by omega), .inl ⟨_, rfl, _, rfl, nl, _, rfl, .inl (sm.seq hN), ?_⟩⟩
      refine modE (by rw [hL]; omega) fun u1 _ hu1 => ?_
      rw [hL] at hu1
      refine ⟨_, rfl, _, _, rfl, rfl, _, rfl, _, rfl, _, rfl, _, _, rfl, rfl, .inl ⟨by decide, by decide⟩, _, _, rfl, rfl, _, _, rfl, rfl, a, _, _, _, rfl, rfl, sm.seq hS, gb _ (by omega), .inl ⟨_, rfl, _, rfl, nl, _, rfl, .inl (sm.seq hN), _, _, rfl, rfl, ?_⟩⟩
      refine modE (by rw [hL]; omega) fun d1 _ hd1 => ?_
      rw [hL] at hd1
      refine ⟨_, _, rfl, rfl, _, rfl, nl, _, rfl, .inl (sm.seq hN), ?_⟩
      refine modE (by rw [hL]; omega) fun u2 hu2e hu2 => ?_
      rw [hL] at hu2 hu2e
      have hne := two_ne (n := (zs.length : Int)) (f := (u1 : Int)) (d := (d1 : Int)) (by omega) (by omega) hu1 (by omega) hd1
      obtain ⟨y, hy, iy, ey⟩ := at_strN (zs := ws) hi2
      obtain ⟨u, hu, iu, eu⟩ := at_strN (zs := zs) (i := u1) (by omega)
      obtain ⟨v, hv, iv, evv⟩ := at_strN (zs := zs) (i := u2) (by omega)
      have huv : u ≠ v := fun e => by
        rw [← e] at iv
        have := nd_ix nd iu iv
        omega
      refine ⟨.ref o, rfl, .inl ⟨rfl, _, sq ho⟩, _, rfl, _, rfl, nm, _, _, _, rfl, rfl, sm.seq hW, by rw [show (0 + (i : Int)) = (i : Int) by omega]; exact ey, _, rfl, _, rfl, nl, _, _, _, rfl, rfl, sm.seq hN, eu, _, rfl, _, rfl, nl, _, _, _, rfl, rfl, sm.seq hN, evv, by show 3 ≤ sizeLine; decide, fun t2 nt2 => ?_⟩
      have no2 : o ≠ t2 := ne_of_none ho nt2
      have ho4 : (upd H2 t2 (.tup [.str y, .str u, .str v])) o = some (.lst xs) := by rw [upd_ne no2]; exact ho
      have lR := hR.len
      have lnm := congrArg List.length hnm
      rw [List.length_map, List.length_take] at lnm
      rw [List.length_map] at lR
      refine ⟨o, _, _, rfl, rfl, ho4, szlt (by omega), ?_⟩
      refine ⟨_, _, _, xs ++ [.ref t2], rs ++ [⟨y, u, v⟩], rfl, same_mut (sm.trans (same_upd nt2)) no, upd_same, ?_, ?_, ?_⟩
      · rw [List.map_append]
        refine Rows.snoc ?_ (Rows.updl ho4 (hR.mono (same_upd nt2)))
        exact .inl (.inl (by rw [upd_ne no2.symm]; exact upd_same))
      · rw [List.map_append, hnm, List.take_add_one, iy]
        rfl
      · intro r hr
        rcases List.mem_append.mp hr with h | h
        · exact hok r h
        · rw [List.mem_singleton.mp h]
          exact ⟨hu, hv, huv⟩
    · rintro σ H2 ⟨z6, z7, z8, xs, rs, rfl, sm, ho, hR, hnm, hok⟩
      exact ⟨_, rfl, q H2 o xs rs sm no ho hR (by rw [hnm, show (ws.length : Int).toNat = ws.length by omega, List.take_length]) hok⟩
theorem pick4 (i : Nat) (h : i < 4) : ∃ z, z ∈ [bothS, forwardS] ∧ atI ([.str "both", .str "both", .str "both", .str "forward"] : List V) (i : Int) = some (.str z) := by
  have : i = 0 ∨ i = 1 ∨ i = 2 ∨ i = 3 := by omega
  rcases this with e | e | e | e <;> subst e
  · exact ⟨bothS, List.mem_cons_self, rfl⟩
  · exact ⟨bothS, List.mem_cons_self, rfl⟩
  · exact ⟨bothS, List.mem_cons_self, rfl⟩
  · exact ⟨forwardS, List.mem_cons_of_mem _ List.mem_cons_self, rfl⟩
theorem pickN2 (i : Nat) (h : i < 2) : ∃ z, z ∈ [makeS, breakS] ∧ atI ([.str "make", .str "break"] : List V) (i : Int) = some (.str z) := by
  have : i = 0 ∨ i = 1 := by omega
  rcases this with e | e <;> subst e
  · exact ⟨makeS, List.mem_cons_self, rfl⟩
  · exact ⟨breakS, List.mem_cons_of_mem _ List.mem_cons_self, rfl⟩
def spContact (K : PySem.W.Frag) : Sp := fun vs H Q _ => ∃ (a nl ml : Addr) (ns : List Int) (at_ : Nat) (zs ms : List Str), vs = [.ref a, .int at_, .ref nl, .ref ml] ∧ SqL K H a (ns.map V.int) ∧ Nums ns ∧ at_ + 4 ≤ ns.length ∧
  SqL K H nl (zs.map V.str) ∧ 2 ≤ zs.length ∧ zs.length ≤ 1000 ∧ zs.Nodup ∧ SqL K H ml (ms.map V.str) ∧ ms.length ≤ 1000 ∧
  ∀ H' t (c : Ct), Same H H' → H t = none → H' t = some (.tup c.row) → ctB zs ms c = true → Q (.ref t) H'
theorem scContact : FnScope ["numbers", "at", "nodes", "movers", "one", "other", "which", "way"] ["numbers", "at", "nodes", "movers"] (defScope sLawContact) := ⟨rfl, rfl, rfl, by decide +kernel, rfl, by decide +kernel, by decide +kernel⟩
theorem ok_contact {f : Addr} {fd : FuncData} {k : Nat} (F : Fun K "_law_contact" "_law_contact" sLawContact f fd) (mi : mg "int" = none) (ml : mg "len" = none) : FnOk P w K mg base CX0 (k + 1) f fd ["numbers", "at", "nodes", "movers"] (spContact K) := by
  refine F.ok scContact (fun vs H Q E h => ?_) (fun cdv A outer s H vs Q E hr h => ?_)
  · obtain ⟨a, nl, ml, ns, at_, zs, ms, rfl, _⟩ := h
    rfl
  · obtain ⟨a, nl, mlst, ns, at_, zs, ms, rfl, hS, hn, hat, hN, z2, z3, nd, hM, m3, q⟩ := h
    refine ⟨_, pss_cons (ps_set (i := 4) scContact.nd rfl (.inl rfl) (pe_op op_modW (pe_callTy call_int1 (by rfl) mi (by decide +kernel) (pa_cons (pe_ix ix_list (pv 0) (pv 1) (fun _ _ => rfl)) pa_nil)) (pe_callB call_len_seq (by rfl) ml PySem.boot_len (pa_cons (pv 2) pa_nil))))
      (pss_cons (ps_set (i := 5) scContact.nd rfl (.inl rfl) (pe_op op_modW (pe_op op_add (pe_op op_add (pv 4) pe_int) (pe_op op_modW (pe_callTy call_int1 (by rfl) mi (by decide +kernel) (pa_cons (pe_ix ix_list (pv 0) (pe_op op_add (pv 1) pe_int) (fun _ _ => rfl)) pa_nil)) (pe_op op_sub (pe_callB call_len_seq (by rfl) ml PySem.boot_len (pa_cons (pv 2) pa_nil)) pe_int))) (pe_callB call_len_seq (by rfl) ml PySem.boot_len (pa_cons (pv 2) pa_nil))))
      (pss_cons (ps_set (i := 6) scContact.nd rfl (.inl rfl) (pe_op op_modW (pe_callTy call_int1 (by rfl) mi (by decide +kernel) (pa_cons (pe_ix ix_list (pv 0) (pe_op op_add (pv 1) pe_int) (fun _ _ => rfl)) pa_nil)) (pe_op op_add (pe_callB call_len_seq (by rfl) ml PySem.boot_len (pa_cons (pv 3) pa_nil)) pe_int)))
      (pss_cons (ps_set (i := 7) scContact.nd rfl (.inl rfl) (pe_ix ix_list (pe_lst (pa_cons pe_str (pa_cons pe_str (pa_cons pe_str (pa_cons pe_str pa_nil))))) (pe_op op_modW (pe_callTy call_int1 (by rfl) mi (by decide +kernel) (pa_cons (pe_op op_fdiv (pe_ix ix_list (pv 0) (pe_op op_add (pv 1) pe_int) (fun _ _ => rfl)) pe_int) pa_nil)) pe_int) (fun _ _ => rfl)))
      (C8.pss_cut (ps_if (pt_cmpR op_eq (pv 6) (pe_callB call_len_seq (by rfl) ml PySem.boot_len (pa_cons (pv 3) pa_nil)) (nomark _))
        (pss_cons (ps_if (PW.pt (pw_or (pt_cmpR op_eq (pe_callB call_len_seq (by rfl) ml PySem.boot_len (pa_cons (pv 3) pa_nil)) pe_int (nomark _)) (pw_or1 (pt_cmpR op_eq (pe_op op_modW (pe_callTy call_int1 (by rfl) mi (by decide +kernel) (pa_cons (pe_ix ix_list (pv 0) (pe_op op_add (pv 1) pe_int) (fun _ _ => rfl)) pa_nil)) pe_int) pe_int (nomark _)))))
          (pss_one (ps_ret (pe_tup (pa_cons (pe_ix ix_list (pv 2) (pv 4) (fun _ _ => rfl)) (pa_cons (pe_ix ix_list (pv 2) (pv 5) (fun _ _ => rfl)) (pa_cons pe_non (pa_cons pe_str (pa_cons (pv 7) pa_nil)))))))) pss_nil)
        (pss_one (ps_set (i := 6) scContact.nd rfl (.inl rfl) (pe_op op_modW (pe_callTy call_int1 (by rfl) mi (by decide +kernel) (pa_cons (pe_ix ix_list (pv 0) (pe_op op_add (pv 1) pe_int) (fun _ _ => rfl)) pa_nil)) (pe_callB call_len_seq (by rfl) ml PySem.boot_len (pa_cons (pv 3) pa_nil)))))) pss_nil)
      (pss_one (ps_ret (pe_tup (pa_cons (pe_ix ix_list (pv 2) (pv 4) (fun _ _ => rfl)) (pa_cons (pe_ix ix_list (pv 2) (pv 5) (fun _ _ => rfl)) (pa_cons (pe_ix ix_list (pv 3) (pv 6) (fun _ _ => rfl)) (pa_cons (pe_ix ix_list (pe_lst (pa_cons pe_str (pa_cons pe_str pa_nil))) (pe_op op_modW (pe_callTy call_int1 (by rfl) mi (by decide +kernel) (pa_cons (pe_op op_fdiv (pe_ix ix_list (pv 0) (pe_op op_add (pv 1) pe_int) (fun _ _ => rfl)) pe_int) pa_nil)) pe_int) (fun _ _ => rfl)) (pa_cons (pv 7) pa_nil)))))))))))), ?_⟩
    have hL : ((zs.map V.str).length : Int) = (zs.length : Int) := by rw [List.length_map]
    have hM2 : ((ms.map V.str).length : Int) = (ms.length : Int) := by rw [List.length_map]
    obtain ⟨a0, a1, ga⟩ := at_get hn (show at_ < ns.length by omega)
    obtain ⟨b0, b1, gb⟩ := at_get hn (show at_ + 1 < ns.length by omega)
    obtain ⟨c0, c1, gc⟩ := at_get hn (show at_ + 2 < ns.length by omega)
    obtain ⟨d0, d1, gd⟩ := at_get hn (show at_ + 3 < ns.length by omega)
    refine ⟨_, rfl, _, rfl, a, _, _, _, rfl, rfl, hS, ga _ rfl, .inl ⟨_, rfl, _, rfl, nl, _, rfl, .inl hN, ?_⟩⟩
    refine modE (by rw [hL]; omega) fun u1 _ hu1 => ?_
    rw [hL] at hu1
    refine ⟨_, rfl, _, _, rfl, rfl, _, rfl, _, rfl, _, _, rfl, rfl, a, _, _, _, rfl, rfl, hS, gb _ (by omega), .inl ⟨_, rfl, _, rfl, nl, _, rfl, .inl hN, _, _, rfl, rfl, ?_⟩⟩
    refine modE (by rw [hL]; omega) fun e1 _ he1 => ?_
    rw [hL] at he1
    refine ⟨_, _, rfl, rfl, _, rfl, nl, _, rfl, .inl hN, ?_⟩
    refine modE (by rw [hL]; omega) fun u2 hu2e hu2 => ?_
    rw [hL] at hu2 hu2e
    have hne := two_ne (n := (zs.length : Int)) (f := (u1 : Int)) (d := (e1 : Int)) (by omega) (by omega) hu1 (by omega) he1
    obtain ⟨u, hu, iu, eu⟩ := at_strN (zs := zs) (i := u1) (by omega)
    obtain ⟨v, hv, iv, evv⟩ := at_strN (zs := zs) (i := u2) (by omega)
    have huv : u ≠ v := fun e => by
      rw [← e] at iv
      have := nd_ix nd iu iv
      omega
    -- which
    refine ⟨_, rfl, _, rfl, _, _, rfl, rfl, a, _, _, _, rfl, rfl, hS, gc _ (by omega), .inl ⟨_, rfl, _, rfl, mlst, _, rfl, .inl hM, _, _, rfl, rfl, ?_⟩⟩
    refine modE (by rw [hM2]; omega) fun wc _ hwc => ?_
    rw [hM2] at hwc
    -- way
    refine ⟨by show 4 ≤ sizeLine; decide, fun o no => ?_⟩
    have s1 := same_upd (o := .lst [.str "both", .str "both", .str "both", .str "forward"]) no
    refine ⟨_, rfl, _, rfl, _, _, rfl, rfl, a, _, _, _, rfl, rfl, s1.seq hS, gd _ (by omega), _, _, rfl, rfl, ⟨by decide, by decide⟩, .inl ⟨_, rfl, ?_⟩⟩
    refine modE (by decide) fun w4 _ hw4 => ?_
    obtain ⟨wy, hwy, ewy⟩ := pick4 w4 (by omega)
    refine ⟨o, _, _, _, rfl, rfl, sq upd_same, ewy, ?_⟩
    generalize upd H o (.lst [.str "both", .str "both", .str "both", .str "forward"]) = H1 at *
    have hS := s1.seq hS
    have hN := s1.seq hN
    have hM := s1.seq hM
    refine ⟨fun σ G => ∃ i : Nat, σ = [some (.ref a), some (.int at_), some (.ref nl), some (.ref mlst), some (.int u1), some (.int u2), some (.int i), some (.str wy)] ∧ G = H1 ∧ i < ms.length, ?_, ?_⟩
    · refine ⟨_, rfl, _, rfl, mlst, _, rfl, .inl hM, rfl, _, rfl, ?_⟩
      refine ite2 (fun e => ?_) (fun e => ?_)
      · refine ⟨_, rfl, mlst, _, rfl, .inl hM, rfl, _, rfl, ?_⟩
        refine ite2 (fun e2 => ?_) (fun e2 => ?_)
        · refine ⟨_, rfl, _, rfl, nl, _, _, _, rfl, rfl, hN, eu, _, rfl, _, rfl, nl, _, _, _, rfl, rfl, hN, evv, _, rfl, by show 5 ≤ sizeLine; decide, fun t2 nt2 => ?_⟩
          exact q _ t2 ⟨u, v, none, makeS, wy⟩ (s1.trans (same_upd nt2)) (s1.free nt2) upd_same (ctB_mk hu hv huv hwy rfl)
        · have hpos : 0 < ms.length := Nat.pos_of_ne_zero fun z => e2 (decide_eq_true (by rw [List.length_map, z]; rfl))
          refine ⟨_, rfl, _, rfl, _, _, rfl, rfl, a, _, _, _, rfl, rfl, hS, gd _ (by omega), .inl ⟨_, rfl, ?_⟩⟩
          refine modE (by decide) fun w3 _ hw3 => ?_
          refine ⟨rfl, _, rfl, ?_⟩
          refine ite2 (fun e3 => ?_) (fun e3 => ?_)
          · refine ⟨_, rfl, _, rfl, nl, _, _, _, rfl, rfl, hN, eu, _, rfl, _, rfl, nl, _, _, _, rfl, rfl, hN, evv, _, rfl, by show 5 ≤ sizeLine; decide, fun t2 nt2 => ?_⟩
            exact q _ t2 ⟨u, v, none, makeS, wy⟩ (s1.trans (same_upd nt2)) (s1.free nt2) upd_same (ctB_mk hu hv huv hwy rfl)
          · refine ⟨_, rfl, _, rfl, _, _, rfl, rfl, a, _, _, _, rfl, rfl, hS, gc _ (by omega), .inl ⟨_, rfl, _, rfl, mlst, _, rfl, .inl hM, ?_⟩⟩
            refine modE (by rw [hM2]; omega) fun wd _ hwd => ?_
            rw [hM2] at hwd
            exact ⟨wd, rfl, rfl, by omega⟩
      · have ne : ¬ (wc : Int) = (ms.length : Int) := fun z => e (decide_eq_true (by rw [hM2, z]))
        exact ⟨wc, rfl, rfl, by omega⟩
    rintro σ G ⟨i, rfl, rfl, hil⟩
    obtain ⟨mo, hmo, _, em⟩ := at_strN (zs := ms) hil
    refine ⟨_, rfl, _, rfl, nl, _, _, _, rfl, rfl, hN, eu, _, rfl, _, rfl, nl, _, _, _, rfl, rfl, hN, evv, _, rfl, _, rfl, mlst, _, _, _, rfl, rfl, hM, em, by show 2 ≤ sizeLine; decide, fun o3 no3 => ?_⟩
    have s3 := same_upd (o := .lst [.str "make", .str "break"]) no3
    refine ⟨_, rfl, _, rfl, _, _, rfl, rfl, a, _, _, _, rfl, rfl, s3.seq hS, gd _ (by omega), _, _, rfl, rfl, ⟨by decide, by decide⟩, .inl ⟨_, rfl, ?_⟩⟩
    refine modE (by decide) fun w2 _ hw2 => ?_
    obtain ⟨wh, hwh, ewh⟩ := pickN2 w2 (by omega)
    refine ⟨o3, _, _, _, rfl, rfl, sq upd_same, ewh, _, rfl, by show 5 ≤ sizeLine; decide, fun t2 nt2 => ?_⟩
    exact q _ t2 ⟨u, v, some mo, wh, wy⟩ ((s1.trans s3).trans (same_upd nt2)) ((s1.trans s3).free nt2) upd_same (ctB_mk hu hv huv hwy ⟨hmo, hwh⟩)
/-! ### _law_board, _law_made -/
/-- the parts of the board b stand at p: a list of five lists -/
def SpecAt (K : PySem.W.Frag) (H : Hp) (p : Addr) (b : Bd) : Prop := ∃ (n s r l c : Addr) (xr xl xc : List V), H p = some (.lst [.ref n, .ref s, .ref r, .ref l, .ref c]) ∧ H n = some (.lst (b.nodes.map V.str)) ∧ H s = some (.lst (b.switches.map V.str)) ∧ H r = some (.lst xr) ∧ H l = some (.lst xl) ∧ H c = some (.lst xc) ∧
  Rows K H xr (b.relays.map Sp3.row) ∧ Rows K H xl (b.lamps.map Sp3.row) ∧ Rows K H xc (b.contacts.map Ct.row)
theorem SpecAt.mono {K : PySem.W.Frag} {H H' : Hp} {p : Addr} {b : Bd} (s : Same H H') : SpecAt K H p b → SpecAt K H' p b
  | ⟨n, s1, r, l, c, xr, xl, xc, h0, h1, h2, h3, h4, h5, h6, h7, h8⟩ => ⟨n, s1, r, l, c, xr, xl, xc, s _ _ h0, s _ _ h1, s _ _ h2, s _ _ h3, s _ _ h4, s _ _ h5, h6.mono s, h7.mono s, h8.mono s⟩
def spBoard (K : PySem.W.Frag) : Sp := fun vs H Q _ => ∃ (a : Addr) (ns : List Int) (big : Bool), vs = [.ref a, .bl big] ∧ SqL K H a (ns.map V.int) ∧ Nums ns ∧ 214 ≤ ns.length ∧ ∀ H' p b, Same H H' → H p = none → SpecAt K H' p b → b.Ok → Few b → Q (.ref p) H'
theorem scBoard : FnScope ["numbers", "big", "sizes", "nodes", "movers", "lamps", "switches", "relays", "contacts", "k"] ["numbers", "big"] (defScope sLawBoard) := ⟨rfl, rfl, rfl, by decide +kernel, rfl, by decide +kernel, by decide +kernel⟩
theorem Nm.ok {z : Str} (h : Nm z) : isNm z = true := isNm_iff.mpr h
theorem areNm_mk {zs : List Str} {lo hi : Nat} (h1 : ∀ z ∈ zs, Nm z) (h2 : zs.Nodup) (h3 : lo ≤ zs.length) (h4 : zs.length ≤ hi) : areNm zs lo hi = true := by
  unfold areNm
  rw [decide_eq_true h2, decide_eq_true h3, decide_eq_true h4, Bool.and_true, Bool.and_true, Bool.and_true, List.all_eq_true]
  exact fun z hz => (h1 z hz).ok
theorem spanB_mk {zs : List Str} {r : Sp3} (h1 : Nm r.nm) (h2 : LoadOk zs r) : spanB zs r = true := by
  unfold spanB
  rw [h1.ok, decide_eq_true h2.1, decide_eq_true h2.2.1, decide_eq_false h2.2.2]
  rfl
theorem cut_drop_list (xs : List V) (n : Nat) : cutV xs (some (n : Int)) none = xs.drop n := by
  unfold cutV
  rw [HT.sIx_nat, HT.sIx_none]
  by_cases h : n ≤ xs.length
  · rw [Nat.min_eq_left h]
    exact List.take_of_length_le (by rw [List.length_drop]; exact Nat.le_refl _)
  · rw [Nat.min_eq_right (by omega), List.drop_length, List.drop_eq_nil_of_le (by omega)]
    simp
theorem drawn_ok {zs ms las : List Str} {sw : Nat} {rs ls : List Sp3} {cs : List Ct} (zn : ∀ z ∈ zs, Nm z) (zd : zs.Nodup) (z2 : 2 ≤ zs.length) (z16 : zs.length ≤ 16) (mn : ∀ z ∈ ms, Nm z) (md : ms.Nodup) (s6 : sw ≤ 6) (hsw : sw ≤ ms.length) (r8 : ms.length - sw ≤ 8) (ln : ∀ z ∈ las, Nm z) (ld : las.Nodup) (l1 : 1 ≤ las.length) (l8 : las.length ≤ 8)
    (hrs : rs.map (·.nm) = ms.drop sw) (hls : ls.map (·.nm) = las) (okR : ∀ r ∈ rs, LoadOk zs r) (okL : ∀ r ∈ ls, LoadOk zs r) (c40 : cs.length ≤ 40) (okC : ∀ c ∈ cs, ctB zs ms c = true) : (⟨zs, ms.take sw, rs, ls, cs⟩ : Bd).Ok ∧ Few ⟨zs, ms.take sw, rs, ls, cs⟩ := by
  have lrs : rs.length = ms.length - sw := by
    have := congrArg List.length hrs
    rw [List.length_map, List.length_drop] at this
    exact this
  have lls : ls.length = las.length := by
    have := congrArg List.length hls
    rw [List.length_map] at this
    exact this
  have emv : (⟨zs, ms.take sw, rs, ls, cs⟩ : Bd).movers = ms := by
    show ms.take sw ++ rs.map (·.nm) = _
    rw [hrs, List.take_append_drop]
  refine ⟨⟨?_, ?_, ?_, ?_, ?_, ?_, ?_, c40, ?_⟩, ⟨?_, ?_, ?_, ?_, ?_, ?_, ?_, ?_, ?_⟩⟩
  · exact areNm_mk zn zd z2 z16
  · show (ms.take sw).length ≤ 6
    rw [List.length_take]
    omega
  · show rs.length ≤ 8
    omega
  · rw [emv]
    exact areNm_mk mn md (Nat.zero_le _) (Nat.le_refl _)
  · show areNm (ls.map (·.nm)) 1 8 = true
    rw [hls]
    exact areNm_mk ln ld l1 l8
  · intro r hr'
    refine spanB_mk (mn _ (List.mem_of_mem_drop (i := sw) ?_)) (okR r hr')
    rw [← hrs]
    exact List.mem_map.mpr ⟨r, hr', rfl⟩
  · intro r hr'
    refine spanB_mk (ln _ ?_) (okL r hr')
    rw [← hls]
    exact List.mem_map.mpr ⟨r, hr', rfl⟩
  · rw [emv]
    exact okC
  · show zs.length ≤ 1000
    omega
  · show (ms.take sw).length ≤ 1000
    rw [List.length_take]
    omega
  · show rs.length ≤ 1000
    omega
  · show ls.length ≤ 1000
    omega
  · show cs.length ≤ 1000
    omega
  · exact fun z hz => by have := (zn z hz).2.1; omega
  · exact fun z hz => by have := (mn z (List.mem_of_mem_take hz)).2.1; omega
  · intro r hr'
    have := (mn r.nm (List.mem_of_mem_drop (i := sw) (by rw [← hrs]; exact List.mem_map.mpr ⟨r, hr', rfl⟩))).2.1
    omega
  · intro r hr'
    have := (ln r.nm (by rw [← hls]; exact List.mem_map.mpr ⟨r, hr', rfl⟩)).2.1
    omega
theorem at5 {x0 x1 x2 x3 x4 : V} : atI [x0, x1, x2, x3, x4] 0 = some x0 ∧ atI [x0, x1, x2, x3, x4] 1 = some x1 ∧ atI [x0, x1, x2, x3, x4] 2 = some x2 ∧ atI [x0, x1, x2, x3, x4] 3 = some x3 ∧ atI [x0, x1, x2, x3, x4] 4 = some x4 := ⟨rfl, rfl, rfl, rfl, rfl⟩
theorem ok_board {f fM fL fC : Addr} {fd fdM fdL fdC : FuncData} {k : Nat} (F : Fun K "_law_board" "_law_board" sLawBoard f fd)
    (FM : Fun K "_law_names" "_law_names" sLawNames fM fdM) (bM : Binds K fdM ["number", "other", "many"] []) (gM : mg "_law_names" = some (.ref fM))
    (FL : Fun K "_law_loads" "_law_loads" sLawLoads fL fdL) (bL : Binds K fdL ["numbers", "at", "many", "names", "nodes"] []) (gL : mg "_law_loads" = some (.ref fL))
    (FC : Fun K "_law_contact" "_law_contact" sLawContact fC fdC) (bC : Binds K fdC ["numbers", "at", "nodes", "movers"] []) (gC : mg "_law_contact" = some (.ref fC))
    (mi : mg "int" = none) (mr : mg "range" = none) (ml : mg "len" = none) : FnOk P w K mg base CX0 (k + 2) f fd ["numbers", "big"] (spBoard K) := by
  have GM : FnOk P w K mg base CX0 (k + 1) fM fdM ["number", "other", "many"] (spNames K) := ok_names FM mi mr
  have GL : FnOk P w K mg base CX0 (k + 1) fL fdL ["numbers", "at", "many", "names", "nodes"] (spLoads K) := ok_loads FL mi ml mr
  have GC : FnOk P w K mg base CX0 (k + 1) fC fdC ["numbers", "at", "nodes", "movers"] (spContact K) := ok_contact FC mi ml
  refine F.ok scBoard (fun vs H Q E h => ?_) (fun cdv A outer s H vs Q E hr h => ?_)
  · obtain ⟨a, ns, big, rfl, _⟩ := h
    rfl
  · obtain ⟨a, ns, big, rfl, hS, hn, hl, q⟩ := h
    refine ⟨_, pss_cons (ps_set (i := 2) scBoard.nd rfl (.inl rfl) (pe_lst (pa_cons (pe_op op_add pe_int (pe_op op_modW (pe_callTy call_int1 (by rfl) mi (by decide +kernel) (pa_cons (pe_ix ix_list (pv 0) pe_int (fun _ _ => rfl)) pa_nil)) pe_int)) (pa_cons (pe_op op_modW (pe_callTy call_int1 (by rfl) mi (by decide +kernel) (pa_cons (pe_ix ix_list (pv 0) pe_int (fun _ _ => rfl)) pa_nil)) pe_int) (pa_cons (pe_op op_modW (pe_callTy call_int1 (by rfl) mi (by decide +kernel) (pa_cons (pe_ix ix_list (pv 0) pe_int (fun _ _ => rfl)) pa_nil)) pe_int) (pa_cons (pe_op op_add pe_int (pe_op op_modW (pe_callTy call_int1 (by rfl) mi (by decide +kernel) (pa_cons (pe_ix ix_list (pv 0) pe_int (fun _ _ => rfl)) pa_nil)) pe_int)) (pa_cons (pe_op op_modW (pe_callTy call_int1 (by rfl) mi (by decide +kernel) (pa_cons (pe_ix ix_list (pv 0) pe_int (fun _ _ => rfl)) pa_nil)) pe_int) pa_nil)))))))
      (C8.pss_cut (ps_if (PW.pt (pw_and (pt_val (pv 1)) (pw_and1 (pt_cmpR op_eq (pe_op op_modW (pe_callTy call_int1 (by rfl) mi (by decide +kernel) (pa_cons (pe_ix ix_list (pv 0) pe_int (fun _ _ => rfl)) pa_nil)) pe_int) pe_int (nomark _)))))
        (pss_cons (ps_set (i := 2) scBoard.nd rfl (.inl rfl) (pe_lst (pa_cons (pe_op op_add pe_int (pe_op op_modW (pe_callTy call_int1 (by rfl) mi (by decide +kernel) (pa_cons (pe_ix ix_list (pv 0) pe_int (fun _ _ => rfl)) pa_nil)) pe_int)) (pa_cons (pe_op op_modW (pe_callTy call_int1 (by rfl) mi (by decide +kernel) (pa_cons (pe_ix ix_list (pv 0) pe_int (fun _ _ => rfl)) pa_nil)) pe_int) (pa_cons (pe_op op_modW (pe_callTy call_int1 (by rfl) mi (by decide +kernel) (pa_cons (pe_ix ix_list (pv 0) pe_int (fun _ _ => rfl)) pa_nil)) pe_int) (pa_cons (pe_op op_add pe_int (pe_op op_modW (pe_callTy call_int1 (by rfl) mi (by decide +kernel) (pa_cons (pe_ix ix_list (pv 0) pe_int (fun _ _ => rfl)) pa_nil)) pe_int)) pa_nil))))))
        (pss_one (ps_expr (pe_bm PySem.F.plainAttrs_list PySem.F.slot_list_append PySem.F.type_list_append mt_append (pv 2) (pa_cons (pe_op op_modW (pe_callTy call_int1 (by rfl) mi (by decide +kernel) (pa_cons (pe_ix ix_list (pv 0) pe_int (fun _ _ => rfl)) pa_nil)) pe_int) pa_nil))))) pss_nil)
      (pss_cons (ps_set (i := 3) scBoard.nd rfl (.inr rfl) (pe_call GM hr (by rfl) gM FM.kp bM .nil pass0 (pa_cons (pe_ix ix_list (pv 0) pe_int (fun _ _ => rfl)) (pa_cons (pe_ix ix_list (pv 0) pe_int (fun _ _ => rfl)) (pa_cons (pe_ix ix_list (pv 2) pe_int (fun _ _ => rfl)) pa_nil)))))
      (pss_cons (ps_set (i := 4) scBoard.nd rfl (.inr rfl) (pe_call GM hr (by rfl) gM FM.kp bM .nil pass0 (pa_cons (pe_ix ix_list (pv 0) pe_int (fun _ _ => rfl)) (pa_cons (pe_ix ix_list (pv 0) pe_int (fun _ _ => rfl)) (pa_cons (pe_op op_add (pe_ix ix_list (pv 2) pe_int (fun _ _ => rfl)) (pe_ix ix_list (pv 2) pe_int (fun _ _ => rfl))) pa_nil)))))
      (pss_cons (ps_set (i := 5) scBoard.nd rfl (.inl rfl) (pe_call GM hr (by rfl) gM FM.kp bM .nil pass0 (pa_cons (pe_ix ix_list (pv 0) pe_int (fun _ _ => rfl)) (pa_cons (pe_ix ix_list (pv 0) pe_int (fun _ _ => rfl)) (pa_cons (pe_ix ix_list (pv 2) pe_int (fun _ _ => rfl)) pa_nil)))))
      (pss_cons (ps_set (i := 6) scBoard.nd rfl (.inl rfl) (pe_slice sl_list (pv 4) po_none (po_some (pe_ix ix_list (pv 2) pe_int (fun _ _ => rfl)))))
      (pss_cons (ps_set (i := 7) scBoard.nd rfl (.inl rfl) (pe_call GL hr (by rfl) gL FL.kp bL .nil pass0 (pa_cons (pv 0) (pa_cons pe_int (pa_cons (pe_ix ix_list (pv 2) pe_int (fun _ _ => rfl)) (pa_cons (pe_slice sl_list (pv 4) (po_some (pe_ix ix_list (pv 2) pe_int (fun _ _ => rfl))) po_none) (pa_cons (pv 3) pa_nil)))))))
      (pss_cons (ps_setLc (i := 8) (own := [("k", 9)]) (g := gName 9) (tt := tYes) rfl scBoard.nd rfl rfl (sw_true rfl rfl rfl (by decide +kernel)) (pi_range1 rfl mr (pa_cons (pe_ix ix_list (pv 2) pe_int (fun _ _ => rfl)) pa_nil)) (blkOk_by (N := ["numbers", "big", "sizes", "nodes", "movers", "lamps", "switches", "relays", "contacts", "k"]) (sc := defScope sLawBoard) (by decide +kernel)) (fun _ _ _ _ _ => pg_name (i := 9) scBoard.nd rfl (Or.inl rfl)) (fun _ _ _ _ _ => pts_nil)
          (fun _ _ _ _ _ => pe_call GC hr (by rfl) gC FC.kp bC .nil pass0 (pa_cons (pv 0) (pa_cons (pe_op op_add pe_int (pe_op op_mul pe_int (pv 9))) (pa_cons (pv 3) (pa_cons (pv 4) pa_nil))))))
      (pss_one (ps_ret (pe_lst (pa_cons (pv 3) (pa_cons (pv 6) (pa_cons (pv 7) (pa_cons (pe_call GL hr (by rfl) gL FL.kp bL .nil pass0 (pa_cons (pv 0) (pa_cons pe_int (pa_cons (pe_ix ix_list (pv 2) pe_int (fun _ _ => rfl)) (pa_cons (pv 5) (pa_cons (pv 3) pa_nil)))))) (pa_cons (pv 8) pa_nil))))))))))))))), ?_⟩
    obtain ⟨_, _, g0⟩ := at_get hn (show 0 < ns.length by omega)
    obtain ⟨_, _, g1⟩ := at_get hn (show 1 < ns.length by omega)
    obtain ⟨_, _, g2⟩ := at_get hn (show 2 < ns.length by omega)
    obtain ⟨_, _, g3⟩ := at_get hn (show 3 < ns.length by omega)
    obtain ⟨_, _, g4⟩ := at_get hn (show 4 < ns.length by omega)
    obtain ⟨_, _, g5⟩ := at_get hn (show 5 < ns.length by omega)
    obtain ⟨a6, b6, g6⟩ := at_get hn (show 6 < ns.length by omega)
    obtain ⟨a7, b7, g7⟩ := at_get hn (show 7 < ns.length by omega)
    obtain ⟨a8, b8, g8⟩ := at_get hn (show 8 < ns.length by omega)
    obtain ⟨a9, b9, g9⟩ := at_get hn (show 9 < ns.length by omega)
    obtain ⟨a10, b10, g10⟩ := at_get hn (show 10 < ns.length by omega)
    obtain ⟨a11, b11, g11⟩ := at_get hn (show 11 < ns.length by omega)
    refine ⟨_, rfl, a, _, _, _, rfl, rfl, hS, g0 _ rfl, .inl ⟨_, rfl, ?_⟩⟩
    refine modE (by decide) fun r0 _ h0 => ?_
    refine ⟨_, _, rfl, rfl, _, rfl, a, _, _, _, rfl, rfl, hS, g1 _ rfl, .inl ⟨_, rfl, ?_⟩⟩
    refine modE (by decide) fun r1 _ h1 => ?_
    refine ⟨_, rfl, a, _, _, _, rfl, rfl, hS, g2 _ rfl, .inl ⟨_, rfl, ?_⟩⟩
    refine modE (by decide) fun r2 _ h2 => ?_
    refine ⟨_, rfl, a, _, _, _, rfl, rfl, hS, g3 _ rfl, .inl ⟨_, rfl, ?_⟩⟩
    refine modE (by decide) fun r3 _ h3 => ?_
    refine ⟨_, _, rfl, rfl, _, rfl, a, _, _, _, rfl, rfl, hS, g4 _ rfl, .inl ⟨_, rfl, ?_⟩⟩
    refine modE (by decide) fun r4 _ h4 => ?_
    refine ⟨by show 5 ≤ sizeLine; decide, fun o0 n0 => ?_⟩
    have z1 := same_upd (o := .lst [.int (2 + (r0 : Int)), .int r1, .int r2, .int (1 + (r3 : Int)), .int r4]) n0
    refine ⟨fun σ G => ∃ (os : Addr) (s0 s1 s2 s3 s4 : Nat), σ = [some (.ref a), some (.bl big), some (.ref os), none, none, none, none, none, none, none] ∧ Same H G ∧ G os = some (.lst [.int s0, .int s1, .int s2, .int s3, .int s4]) ∧ 2 ≤ s0 ∧ s0 ≤ 16 ∧ s1 ≤ 6 ∧ s2 ≤ 8 ∧ 1 ≤ s3 ∧ s3 ≤ 8 ∧ s4 ≤ 40, ?_, ?_⟩
    · have stay : ∃ (os : Addr) (s0 s1 s2 s3 s4 : Nat), [some (V.ref a), some (.bl big), some (.ref o0), none, none, none, none, none, none, none] = [some (V.ref a), some (.bl big), some (.ref os), none, none, none, none, none, none, none] ∧ Same H (upd H o0 (.lst [.int (2 + (r0 : Int)), .int r1, .int r2, .int (1 + (r3 : Int)), .int r4])) ∧ (upd H o0 (.lst [.int (2 + (r0 : Int)), .int r1, .int r2, .int (1 + (r3 : Int)), .int r4])) os = some (.lst [.int s0, .int s1, .int s2, .int s3, .int s4]) ∧ 2 ≤ s0 ∧ s0 ≤ 16 ∧ s1 ≤ 6 ∧ s2 ≤ 8 ∧ 1 ≤ s3 ∧ s3 ≤ 8 ∧ s4 ≤ 40 :=
        ⟨o0, 2 + r0, r1, r2, 1 + r3, r4, rfl, z1, by rw [upd_same, show ((2 + r0 : Nat) : Int) = 2 + (r0 : Int) by omega, show ((1 + r3 : Nat) : Int) = 1 + (r3 : Int) by omega], by omega, by omega, by omega, by omega, by omega, by omega, by omega⟩
      refine ⟨_, rfl, _, rfl, ?_⟩
      refine ite2 (fun _ => ?_) (fun _ => stay)
      have hS1 := z1.seq hS
      refine ⟨_, rfl, a, _, _, _, rfl, rfl, hS1, g5 _ rfl, .inl ⟨_, rfl, ?_⟩⟩
      refine modE (by decide) fun r5 _ h5 => ?_
      refine ⟨rfl, _, rfl, ?_⟩
      refine ite2 (fun _ => ?_) (fun _ => stay)
      refine ⟨_, rfl, a, _, _, _, rfl, rfl, hS1, g0 _ rfl, .inl ⟨_, rfl, ?_⟩⟩
      refine modE (by decide) fun p0 _ k0 => ?_
      refine ⟨_, _, rfl, rfl, _, rfl, a, _, _, _, rfl, rfl, hS1, g1 _ rfl, .inl ⟨_, rfl, ?_⟩⟩
      refine modE (by decide) fun p1 _ k1 => ?_
      refine ⟨_, rfl, a, _, _, _, rfl, rfl, hS1, g2 _ rfl, .inl ⟨_, rfl, ?_⟩⟩
      refine modE (by decide) fun p2 _ k2 => ?_
      refine ⟨_, rfl, a, _, _, _, rfl, rfl, hS1, g3 _ rfl, .inl ⟨_, rfl, ?_⟩⟩
      refine modE (by decide) fun p3 _ k3 => ?_
      refine ⟨_, _, rfl, rfl, by show 4 ≤ sizeLine; decide, fun o1 n1 => ?_⟩
      have z2 := same_upd (o := .lst [.int (2 + (p0 : Int)), .int p1, .int p2, .int (1 + (p3 : Int))]) n1
      refine ⟨_, rfl, .inl ⟨rfl, _, sq upd_same⟩, _, rfl, a, _, _, _, rfl, rfl, z2.seq hS1, g4 _ rfl, .inl ⟨_, rfl, ?_⟩⟩
      refine modE (by decide) fun p4 _ k4 => ?_
      refine ⟨o1, _, _, rfl, rfl, upd_same, szlt (by show 4 ≤ 1000000; decide), ?_⟩
      refine ⟨o1, 2 + p0, p1, p2, 1 + p3, p4, rfl, same_mut (z1.trans z2) (z1.free n1), ?_, by omega, by omega, by omega, by omega, by omega, by omega, by omega⟩
      rw [upd_same, show ((2 + p0 : Nat) : Int) = 2 + (p0 : Int) by omega, show ((1 + p3 : Nat) : Int) = 1 + (p3 : Int) by omega]
      rfl
    rintro σ G ⟨os, t0, t1, t2, t3, t4, rfl, zg, hos, l0, u0, u1, u2, l3, u3, u4⟩
    obtain ⟨e0, e1, e2, e3, e4⟩ := at5 (x0 := .int t0) (x1 := .int t1) (x2 := .int t2) (x3 := .int t3) (x4 := .int t4)
    have hSg := zg.seq hS
    -- nodes
    refine ⟨_, rfl, a, _, _, _, rfl, rfl, hSg, g6 _ rfl, _, rfl, a, _, _, _, rfl, rfl, hSg, g7 _ rfl, _, rfl, os, _, _, _, rfl, rfl, sq hos, e0, getI ns 6, getI ns 7, t0, rfl, ⟨a6, b6⟩, ⟨a7, b7⟩, by omega, fun G1 on zs s1 nn hon zl zn zd => ?_⟩
    have hS1 := s1.seq hSg
    have hos1 := s1 _ _ hos
    -- movers
    refine ⟨_, rfl, a, _, _, _, rfl, rfl, hS1, g8 _ rfl, _, rfl, a, _, _, _, rfl, rfl, hS1, g9 _ rfl, _, rfl, os, _, _, _, rfl, rfl, sq hos1, e1, _, rfl, os, _, _, _, rfl, rfl, sq hos1, e2, _, _, rfl, rfl, getI ns 8, getI ns 9, t1 + t2, by rw [Int.natCast_add]; rfl, ⟨a8, b8⟩, ⟨a9, b9⟩, by omega, fun G2 om ms s2 nm hom mL mn md => ?_⟩
    have hS2 := s2.seq hS1
    have hos2 := s2 _ _ hos1
    have hon2 := s2 _ _ hon
    -- lamps
    refine ⟨_, rfl, a, _, _, _, rfl, rfl, hS2, g10 _ rfl, _, rfl, a, _, _, _, rfl, rfl, hS2, g11 _ rfl, _, rfl, os, _, _, _, rfl, rfl, sq hos2, e3, getI ns 10, getI ns 11, t3, rfl, ⟨a10, b10⟩, ⟨a11, b11⟩, by omega, fun G3 ol las s3 nl hol lL lan lad => ?_⟩
    have hS3 := s3.seq hS2
    have hos3 := s3 _ _ hos2
    have hon3 := s3 _ _ hon2
    have hom3 := s3 _ _ hom
    -- switches
    refine ⟨_, rfl, _, rfl, os, _, _, _, rfl, rfl, sq hos3, e1, _, rfl, om, _, rfl, sq hom3, fun o6 n6 => ?_⟩
    rw [cut_list, ← List.map_take]
    have s4 := same_upd (o := .lst ((ms.take t1).map V.str)) n6
    have ho6 := upd_same (H := G3) (a := o6) (o := .lst ((ms.take t1).map V.str))
    generalize upd G3 o6 (.lst ((ms.take t1).map V.str)) = G4 at *
    have hS4 := s4.seq hS3
    have hos4 := s4 _ _ hos3
    have hon4 := s4 _ _ hon3
    have hom4 := s4 _ _ hom3
    have hol4 := s4 _ _ hol
    -- relays
    refine ⟨_, rfl, _, rfl, os, _, _, _, rfl, rfl, sq hos4, e2, _, rfl, _, rfl, os, _, _, _, rfl, rfl, sq hos4, e1, _, rfl, om, _, rfl, sq hom4, fun o7 n7 => ?_⟩
    rw [cut_drop_list, ← List.map_drop]
    have s5 := same_upd (o := .lst ((ms.drop t1).map V.str)) n7
    have ld : (ms.drop t1).length = t2 := by rw [List.length_drop]; omega
    refine ⟨_, rfl, a, o7, on, ns, 12, ms.drop t1, zs, by rw [ld]; rfl, s5.seq hS4, hn, by rw [ld]; omega, sq upd_same, by omega, sq (s5 _ _ hon4), by omega, by omega, zd, fun G6 orl xr rs s6 n8 hrl hR hnmR hokR => ?_⟩
    have s56 := s5.trans s6
    have hS6 := s56.seq hS4
    have hos6 := s56 _ _ hos4
    have hon6 := s56 _ _ hon4
    have hom6 := s56 _ _ hom4
    have hol6 := s56 _ _ hol4
    have ho66 := s56 _ _ ho6
    have zg6 := ((((zg.trans s1).trans s2).trans s3).trans s4).trans s56
    -- contacts
    refine ⟨_, rfl, os, _, _, _, rfl, rfl, sq hos6, e4, (t4 : Int), rfl, by omega, by omega, fun D nD => ?_⟩
    refine lc_range (lo := 0) (n := (t4 : Int).toNat) (fun i G => ∃ (xc : List V) (cs : List Ct), Same G6 G ∧ G D = some (.lst xc) ∧ Rows K G xc (cs.map Ct.row) ∧ cs.length = i ∧ ∀ c ∈ cs, ctB zs ms c = true) ⟨[], [], same_upd nD, upd_same, True.intro, rfl, fun c hc => by cases hc⟩ ?_ ?_
    · rintro i G7 hi ⟨xc, cs, sm, hd, hC, hcl, hok⟩
      have hi2 : i < t4 := by omega
      refine ⟨rfl, ?_⟩
      refine yesT ?_
      refine ⟨_, rfl, _, rfl, _, _, rfl, rfl, .inl ⟨by decide, by decide⟩, _, _, rfl, rfl, _, rfl, _, rfl, a, on, om, ns, 50 + 4 * i, zs, ms, ?_, sm.seq hS6, hn, by omega, sq (sm _ _ hon6), by omega, by omega, zd, sq (sm _ _ hom6), by omega, fun G8 t c s8 nt ht hct => ?_⟩
      · have e : (50 : Int) + 4 * (0 + (i : Int)) = ((50 + 4 * i : Nat) : Int) := by omega
        show [V.ref a, V.int (50 + 4 * (0 + (i : Int))), V.ref on, V.ref om] = _
        rw [e]
      · have hd8 := s8 _ _ hd
        have lc := hC.len
        rw [List.length_map] at lc
        have not : D ≠ t := ne_of_none hd nt
        refine ⟨_, hd8, szlt (by omega), xc ++ [.ref t], cs ++ [c], same_mut (sm.trans s8) nD, upd_same, ?_, by rw [List.length_append, hcl]; rfl, fun d hd => ?_⟩
        · rw [List.map_append]
          refine Rows.snoc ?_ (Rows.updl hd8 (hC.mono s8))
          exact .inl (.inl (by rw [upd_ne not.symm]; exact ht))
        · rcases List.mem_append.mp hd with h | h
          · exact hok d h
          · rw [List.mem_singleton.mp h]
            exact hct
    rintro G7 ⟨xc, cs, s7, hD, hC, hcl, hokC⟩
    have hS7 := s7.seq hS6
    have hos7 := s7 _ _ hos6
    refine ⟨_, rfl, _, rfl, _, rfl, _, rfl, _, rfl, os, _, _, _, rfl, rfl, sq hos7, e3, _, rfl, _, rfl, a, ol, on, ns, 30, las, zs, by rw [lL]; rfl, hS7, hn, by omega, sq (s7 _ _ hol6), by omega, sq (s7 _ _ hon6), by omega, by omega, zd, fun G8 oll xl ls s8 n9 hll hL hnmL hokL => ?_⟩
    refine ⟨_, rfl, by show 5 ≤ sizeLine; decide, fun p np => ?_⟩
    have s9 := same_upd (o := .lst [.ref on, .ref o6, .ref orl, .ref oll, .ref D]) np
    have s79 := (s7.trans s8).trans s9
    have s89 := s8.trans s9
    obtain ⟨bok, bfew⟩ := drawn_ok (rs := rs) (ls := ls) (cs := cs) zn zd (by omega) (by omega) mn md u1 (by omega) (by omega) lan lad (by omega) (by omega) hnmR hnmL hokR hokL (by omega) hokC
    exact q _ p ⟨zs, ms.take t1, rs, ls, cs⟩ (zg6.trans s79) ((zg6.trans (s7.trans s8)).free np) ⟨on, o6, orl, oll, D, xr, xl, xc, upd_same, s79 _ _ hon6, s79 _ _ ho66, s79 _ _ hrl, s9 _ _ hll, s89 _ _ hD, hR.mono s79, hL.mono s9, hC.mono s89⟩ bok bfew
/-! ### _law_made, _law_movers -/
def gInit {α : Type} : List α → List α → List α
  | [x], [n, s, r, l, c] => [x, n, l, s, r, c]
  | us, _ => us
theorem kb_init {f : Addr} {fd : FuncData} (F : Fun K "__init__" "Board.__init__" sBoardInit f fd) : KBn K fd ["self", "nodes", "lamps", "switches", "relays", "contacts"] 1 ["nodes", "switches", "relays", "lamps", "contacts"] gInit gInit := by
  obtain ⟨oc, od, kV, doc, pm, an, cdv, ct, osl, rfl, lk, hcd⟩ := F.ex
  refine ⟨fun s us ws _ h1 h2 => ?_, fun {vs us zs ws} h1 h2 => ?_⟩
  · match us, h1, ws, h2 with
    | [_], _, [_, _, _, _, _], _ => exact .of_eq rfl
  · cases h1 with
    | nil => exact .nil
    | cons a1 r1 =>
      cases r1 with
      | cons a2 r2 => exact .cons a1 (.cons a2 r2)
      | nil =>
        cases h2 with
        | nil => exact .cons a1 .nil
        | cons b1 q1 =>
          cases q1 with
          | nil => exact .cons a1 .nil
          | cons b2 q2 =>
            cases q2 with
            | nil => exact .cons a1 .nil
            | cons b3 q3 =>
              cases q3 with
              | nil => exact .cons a1 .nil
              | cons b4 q4 =>
                cases q4 with
                | nil => exact .cons a1 .nil
                | cons b5 q5 =>
                  cases q5 with
                  | nil => exact .cons a1 (.cons b1 (.cons b4 (.cons b2 (.cons b3 (.cons b5 .nil)))))
                  | cons _ _ => exact .cons a1 .nil

def spMade (K : PySem.W.Frag) (C : Addr) : Sp := fun vs H Q _ => ∃ (p : Addr) (b : Bd), vs = [.ref p] ∧ SpecAt K H p b ∧ Few b ∧ b.Ok ∧ ∀ H' q, Same H H' → H q = none → BoardAt K C H' q b → Q (.ref q) H'
theorem scMade : FnScope ["spec", "nodes", "switches", "relays", "lamps", "contacts"] ["spec"] (defScope sLawMade) := ⟨rfl, rfl, rfl, by decide +kernel, rfl, by decide +kernel, by decide +kernel⟩
theorem ok_made {f fI C : Addr} {fd fdI : FuncData} {k : Nat} (F : Fun K "_law_made" "_law_made" sLawMade f fd) (M : Mk K C fI) (FI : Fun K "__init__" "Board.__init__" sBoardInit fI fdI) (mgB : mg "Board" = some (.ref C)) (ml : mg "list" = none)
    (GI : FnOk P w K mg base CX0 (k + 4) fI fdI ["self", "nodes", "lamps", "switches", "relays", "contacts"] (spInit K C)) : FnOk P w K mg base CX0 (k + 6) f fd ["spec"] (spMade K C) := by
  have KB := kb_init FI
  refine F.ok scMade (fun vs H Q E h => ?_) (fun cdv A outer s H vs Q E hr h => ?_)
  · obtain ⟨p, b, rfl, _⟩ := h
    rfl
  · obtain ⟨p, b, rfl, hp, few, ok, q⟩ := h
    obtain ⟨n, sw, r, l, c, xr, xl, xc, h0, h1, h2, h3, h4, h5, h6, h7, h8⟩ := hp
    refine ⟨_, pss_cons (ps_asg (pv 0) (pg_lst rfl (pgs_cons (pg_name (i := 1) scMade.nd rfl (Or.inl rfl)) (pgs_cons (pg_name (i := 2) scMade.nd rfl (Or.inl rfl)) (pgs_cons (pg_name (i := 3) scMade.nd rfl (Or.inl rfl)) (pgs_cons (pg_name (i := 4) scMade.nd rfl (Or.inl rfl)) (pgs_cons (pg_name (i := 5) scMade.nd rfl (Or.inl rfl)) pgs_nil)))))))
      (pss_one (ps_ret (pe_makeK0 M GI hr rfl mgB KB pass0
      (pk_cons (pe_callTy call_list_of (by rfl) ml (by decide +kernel) (pa_cons (pv 1) pa_nil))
      (pk_cons (pe_callTy call_list_of (by rfl) ml (by decide +kernel) (pa_cons (pv 2) pa_nil))
      (pk_cons (pe_callTy call_list_of (by rfl) ml (by decide +kernel) (pa_cons (pv 3) pa_nil))
      (pk_cons (pe_callTy call_list_of (by rfl) ml (by decide +kernel) (pa_cons (pv 4) pa_nil))
      (pk_cons (pe_callTy call_list_of (by rfl) ml (by decide +kernel) (pa_cons (pv 5) pa_nil)) pk_nil)))))))), ?_⟩
    refine ⟨_, rfl, p, _, rfl, sq h0, rfl, _, _, rfl, _, _, rfl, _, _, rfl, _, _, rfl, _, _, rfl, rfl, ?_⟩
    refine ⟨_, rfl, n, _, rfl, .inl (sq h1), fun o1 n1 => ?_⟩
    have s1 := same_upd (o := .lst (b.nodes.map V.str)) n1
    refine ⟨_, rfl, sw, _, rfl, .inl (sq (s1 _ _ h2)), fun o2 n2 => ?_⟩
    have s2 := s1.trans (same_upd (o := .lst (b.switches.map V.str)) n2)
    refine ⟨_, rfl, r, _, rfl, .inl (sq (s2 _ _ h3)), fun o3 n3 => ?_⟩
    have s3 := s2.trans (same_upd (o := .lst xr) n3)
    refine ⟨_, rfl, l, _, rfl, .inl (sq (s3 _ _ h4)), fun o4 n4 => ?_⟩
    have s4 := s3.trans (same_upd (o := .lst xl) n4)
    refine ⟨_, rfl, c, _, rfl, .inl (sq (s4 _ _ h5)), fun o5 n5 => ?_⟩
    have s5 := s4.trans (same_upd (o := .lst xc) n5)
    refine ⟨rfl, rfl, fun x dx nx ndx nex => ?_⟩
    have t5 := same_upd (o := .lst xc) n5
    have t4 := (same_upd (o := .lst xl) n4).trans t5
    have t3 := (same_upd (o := .lst xr) n3).trans t4
    have t2 := (same_upd (o := .lst (b.switches.map V.str)) n2).trans t3
    have gv : Given K _ b o1 o4 o2 o3 o5 := ⟨.inl (sq (t2 _ _ upd_same)), .inl (sq (t3 _ _ upd_same)), ⟨xl, .inl (sq (t5 _ _ upd_same)), RowsA.of (h7.mono s5)⟩, ⟨xr, .inl (sq (t4 _ _ upd_same)), RowsA.of (h6.mono s5)⟩, ⟨xc, .inl (sq upd_same), RowsA.of (h8.mono s5)⟩⟩
    refine ⟨x, dx, _, o1, o4, o2, o3, o5, b, rfl, upd_same, nx, same_mut (same_upd ndx) nx, gv, few, ok, fun H' s' hB => ⟨rfl, ?_⟩⟩
    exact q H' x (s5.trans s') (s5.free nx) hB
def spMoversL (K : PySem.W.Frag) : Sp := fun vs H Q _ => ∃ (p : Addr) (b : Bd), vs = [.ref p] ∧ SpecAt K H p b ∧ Few b ∧ ∀ H' o, Same H H' → H o = none → H' o = some (.lst (b.movers.map V.str)) → Q (.ref o) H'
theorem scMoversL : FnScope ["spec", "relay"] ["spec"] (defScope sLawMovers) := ⟨rfl, rfl, rfl, by decide +kernel, rfl, by decide +kernel, by decide +kernel⟩
theorem ok_moversL {f : Addr} {fd : FuncData} {k : Nat} (F : Fun K "_law_movers" "_law_movers" sLawMovers f fd) : FnOk P w K mg base CX0 (k + 1) f fd ["spec"] (spMoversL K) := by
  refine F.ok scMoversL (fun vs H Q E h => ?_) (fun cdv A outer s H vs Q E hr h => ?_)
  · obtain ⟨p, b, rfl, _⟩ := h
    rfl
  · obtain ⟨p, b, rfl, hp, few, q⟩ := h
    obtain ⟨n, sw, r, l, c, xr, xl, xc, h0, h1, h2, h3, h4, h5, h6, h7, h8⟩ := hp
    refine ⟨_, pss_one (ps_ret (pe_op op_cat (pe_ix ix_list (pv 0) pe_int (fun _ _ => rfl))
          (pe_lc (own := [("relay", 1)]) (g := gName 1) (tt := tYes) rfl scMoversL.nd (pi_list (pe_ix ix_list (pv 0) pe_int (fun _ _ => rfl))) (blkOk_by (N := ["spec", "relay"]) (sc := defScope sLawMovers) (by decide +kernel)) (fun _ _ _ _ _ => pg_name (i := 1) scMoversL.nd rfl (Or.inl rfl)) (fun _ _ _ _ _ => pts_nil)
            (te := tOp (rIxT K) (tVar 1) (tC (.int 0))) (fun _ _ _ _ _ => pe_ix ix_tup (pv 1) pe_int (fun _ _ => rfl))))), ?_⟩
    refine ⟨_, rfl, p, _, 1, _, rfl, rfl, sq h0, rfl, _, rfl, p, _, 2, _, rfl, rfl, sq h0, rfl, r, rfl, ⟨_, sq h3⟩, fun D1 nD => ?_⟩
    have lr := h6.len
    rw [List.length_map] at lr
    refine lc_list (K := K) (a := r) (xs := xr) (fun i G => Same H G ∧ G D1 = some (.lst (((b.relays.map (·.nm)).take i).map V.str))) ⟨same_upd nD, upd_same⟩ (fun i G _ h => sq (h.1 _ _ h3)) ?_ ?_
    · rintro i v G hi ⟨sm, hd⟩
      obtain ⟨tt, rw_, rfl, hrow, hri⟩ := h6.at hi
      rw [List.getElem?_map] at hri
      obtain ⟨y, hy, rfl⟩ := Option.map_eq_some_iff.mp hri
      refine ⟨rfl, ?_⟩
      refine yesT ?_
      refine ⟨_, rfl, tt, _, 0, _, rfl, rfl, Same.sqt sm hrow, rfl, _, hd, ?_, same_mut sm nD, ?_⟩
      · rw [List.length_map, List.length_take]
        have := few.r
        exact szlt (by rw [List.length_map]; omega)
      · rw [upd_same, ← map_snoc, List.take_add_one, List.getElem?_map, hy]
        rfl
    rintro H3 ⟨s3, hD⟩
    rw [lr, ← List.length_map (f := fun r : Sp3 => r.nm), List.take_length] at hD
    refine ⟨sw, D1, _, _, rfl, rfl, s3 _ _ h2, hD, szl (by rw [List.length_map, List.length_map, List.length_map]; have := few.s; have := few.r; omega), fun om nom => ?_⟩
    refine q _ om (s3.trans (same_upd nom)) (s3.free nom) ?_
    rw [upd_same, ← List.map_append]
    rfl
/-! ### _law_closed -/
def rIxA (K : PySem.W.Frag) : R2 := fun x y H Q => rIxL K x y H Q ∨ rIxT K x y H Q
theorem ix_any {X : Cx} : IxR X (rIxA X.K) := by
  intro value slice pins s σ H x y v u Q I rx ry h hs
  rcases h with h | h
  · exact ix_list value slice pins s σ H x y v u Q I rx ry h hs
  · exact ix_tup value slice pins s σ H x y v u Q I rx ry h hs
theorem ixA {K : PySem.W.Frag} {H : Hp} {a : Addr} {xs : List V} {i : Int} {v : V} {Q : VK} (h : Sq K H a xs) (e : atI xs i = some v) (q : Q v H) : rIxA K (.ref a) (.int i) H Q := by
  rcases h with h | h
  · exact .inl ⟨a, xs, i, v, rfl, rfl, h, e, q⟩
  · exact .inr ⟨a, xs, i, v, rfl, rfl, h, e, q⟩
def posS : List Str → Str → Nat
  | [], _ => 0
  | x :: xs, m => if x = m then 0 else posS xs m + 1
theorem posS_ok {m : Str} : ∀ {xs : List Str}, m ∈ xs → xs[posS xs m]? = some m ∧ ∀ k z, k < posS xs m → xs[k]? = some z → z ≠ m
  | [], h => by cases h
  | x :: xs, h => by
    unfold posS
    by_cases e : x = m
    · rw [if_pos e]
      exact ⟨congrArg some e, fun k z hk => absurd hk (Nat.not_lt_zero k)⟩
    · rw [if_neg e]
      have hm : m ∈ xs := by
        rcases List.mem_cons.mp h with h | h
        · exact absurd h.symm e
        · exact h
      have ih := posS_ok hm
      refine ⟨ih.1, fun k z hk hz => ?_⟩
      cases k with
      | zero =>
        have hz : some x = some z := hz
        rw [← Option.some.inj hz]
        exact e
      | succ k => exact ih.2 k z (by omega) hz
def closedB (ms : List Str) (on : List Bool) (c : Ct) : Bool := match c.mv with
  | none => true
  | some m => on.getD (posS ms m) false == decide (c.whn = makeS)
def spClosed (K : PySem.W.Frag) : Sp := fun vs H Q _ => ∃ (p a t : Addr) (b : Bd) (on : List Bool) (c : Ct), vs = [.ref p, .ref a, .ref t] ∧ SpecAt K H p b ∧ Few b ∧ Sq K H a (on.map V.bl) ∧ on.length = b.movers.length ∧ SqT K H t c.row ∧ ctB b.nodes b.movers c = true ∧
  ∀ H', Same H H' → Q (.bl (closedB b.movers on c)) H'
theorem scClosed : FnScope ["spec", "on", "contact"] ["spec", "on", "contact"] (defScope sLawClosed) := ⟨rfl, rfl, rfl, by decide +kernel, rfl, by decide +kernel, by decide +kernel⟩
theorem ctB_mv {zs ms : List Str} {c : Ct} (h : ctB zs ms c = true) : ∀ m, c.mv = some m → m ∈ ms := by
  unfold ctB at h
  intro m e
  rw [e] at h
  simp only [Bool.and_eq_true, decide_eq_true_eq, Bool.not_eq_true', decide_eq_false_iff_not] at h
  exact h.2.2.2.1.1
theorem ok_closed {f fV : Addr} {fd fdV : FuncData} {k : Nat} (F : Fun K "_law_closed" "_law_closed" sLawClosed f fd) (FV : Fun K "_law_movers" "_law_movers" sLawMovers fV fdV) (bV : Binds K fdV ["spec"] []) (gV : mg "_law_movers" = some (.ref fV)) :
    FnOk P w K mg base CX0 (k + 2) f fd ["spec", "on", "contact"] (spClosed K) := by
  have GV : FnOk P w K mg base CX0 (k + 1) fV fdV ["spec"] (spMoversL K) := ok_moversL FV
  refine F.ok scClosed (fun vs H Q E h => ?_) (fun cdv A outer s H vs Q E hr h => ?_)
  · obtain ⟨p, a, t, b, on, c, rfl, _⟩ := h
    rfl
  · obtain ⟨p, a, t, b, on, c, rfl, hp, few, ha, lon, ht, hc, q⟩ := h
    refine ⟨_, pss_cons (ps_if (pt_cmpR op_isN (pe_ix ix_tup (pv 2) pe_int (fun _ _ => rfl)) pe_non (nomark _)) (pss_one (ps_ret pe_bl)) pss_nil)
      (pss_one (ps_ret (pe_cmpR op_eq (pe_ix ix_any (pv 1) (pe_bm PySem.F.plainAttrs_list PySem.F.slot_list_index PySem.F.type_list_index mt_index (pe_call GV hr (by rfl) gV FV.kp bV .nil pass0 (pa_cons (pv 0) pa_nil)) (pa_cons (pe_ix ix_tup (pv 2) pe_int (fun _ _ => rfl)) pa_nil)) (fun _ _ => rfl))
        (pe_cmpR op_eq (pe_ix ix_tup (pv 2) pe_int (fun _ _ => rfl)) pe_str (nomark _)) (nomark _)))), ?_⟩
    refine ⟨_, rfl, t, _, 2, _, rfl, rfl, ht, rfl, rfl, _, rfl, ?_⟩
    cases e : c.mv with
    | none =>
      have ev : closedB b.movers on c = true := by
        unfold closedB
        rw [e]
      rw [ev] at q
      refine iteT ?_
      exact q H (Same.refl H)
    | some m =>
      have hm := ctB_mv hc m e
      obtain ⟨p1, p2⟩ := posS_ok hm
      have pl : posS b.movers m < on.length := by
        have := (List.getElem?_eq_some_iff.mp p1).1
        omega
      have ev : closedB b.movers on c = (on[posS b.movers m] == decide (c.whn = makeS)) := by
        unfold closedB
        rw [e]
        show (on.getD (posS b.movers m) false == _) = _
        rw [List.getD_eq_getElem?_getD, List.getElem?_eq_getElem pl]
        rfl
      rw [ev] at q
      refine iteF ?_
      refine ⟨_, rfl, _, rfl, p, b, rfl, hp, few, fun H1 o s1 no ho => ?_⟩
      refine ⟨.inl ⟨rfl, _, sq ho⟩, _, rfl, t, _, 2, mvV (some m), rfl, rfl, Same.sqt s1 ht, ?_, o, _, _, posS b.movers m, .str m, rfl, rfl, sq ho, rfl, flat_strs _, ?_, ?_, ?_, ?_⟩
      · rw [← e]
        rfl
      · rw [List.getElem?_map, p1]
        rfl
      · show eqV (.str m) (.str m) = true
        simp [eqV]
      · intro k z hk hz
        rw [List.getElem?_map] at hz
        obtain ⟨y, hy, rfl⟩ := Option.map_eq_some_iff.mp hz
        have := p2 k y hk hy
        show eqV (.str y) (.str m) = false
        simp [eqV, this]
      · refine ixA (Same.sq s1 ha) (v := .bl on[posS b.movers m]) (atI_nat (by rw [List.getElem?_map, List.getElem?_eq_getElem pl]; rfl)) ?_
        refine ⟨_, rfl, t, _, 3, _, rfl, rfl, Same.sqt s1 ht, rfl, rfl, rfl, ?_⟩
        have ez : decide (V.bl on[posS b.movers m] = V.bl (decide (V.str c.whn = V.str "make"))) = (on[posS b.movers m] == decide (c.whn = makeS)) := by
          have e1 : decide (V.str c.whn = V.str "make") = decide (c.whn = makeS) := decide_eq_decide.mpr ⟨fun h => V.str.inj h, fun h => congrArg V.str h⟩
          rw [e1]
          generalize decide (c.whn = makeS) = x
          generalize on[posS b.movers m] = y
          cases x <;> cases y <;> decide
        rw [ez]
        exact q H1 s1
/-! ### _law_pairs -/
def PairL (H : Hp) : List V → List (Str × Str) → Prop
  | [], [] => True
  | v :: xs, p :: ps => (∃ t, v = .ref t ∧ H t = some (.lst [.str p.1, .str p.2])) ∧ PairL H xs ps
  | _, _ => False
theorem PairL.mono {H H' : Hp} (s : Same H H') : ∀ {xs : List V} {ps : List (Str × Str)}, PairL H xs ps → PairL H' xs ps
  | [], [], _ => True.intro
  | _ :: _, _ :: _, ⟨⟨t, e, h⟩, r⟩ => ⟨⟨t, e, s _ _ h⟩, r.mono s⟩
theorem PairL.len {H : Hp} : ∀ {xs : List V} {ps : List (Str × Str)}, PairL H xs ps → xs.length = ps.length
  | [], [], _ => rfl
  | _ :: _, _ :: _, ⟨_, r⟩ => congrArg (· + 1) r.len
theorem PairL.upd {H : Hp} {o : Addr} {ho : HO} : ∀ {xs : List V} {ps : List (Str × Str)}, (∀ v ∈ xs, v ≠ .ref o) → PairL H xs ps → PairL (upd H o ho) xs ps
  | [], [], _, _ => True.intro
  | v :: xs, _ :: _, hn, ⟨⟨t, e, h⟩, r⟩ => ⟨⟨t, e, by
      rw [upd_ne fun z => hn v List.mem_cons_self (by rw [e, z])]
      exact h⟩, PairL.upd (fun u hu => hn u (List.mem_cons_of_mem _ hu)) r⟩
theorem PairL.snoc {H : Hp} {t : Addr} {p : Str × Str} (ht : H t = some (.lst [.str p.1, .str p.2])) : ∀ {xs : List V} {ps : List (Str × Str)}, PairL H xs ps → PairL H (xs ++ [.ref t]) (ps ++ [p])
  | [], [], _ => ⟨⟨t, rfl, ht⟩, True.intro⟩
  | _ :: _, _ :: _, ⟨h, r⟩ => ⟨h, PairL.snoc ht r⟩
theorem PairL.at {H : Hp} : ∀ {xs : List V} {ps : List (Str × Str)} {i : Nat} {v : V}, PairL H xs ps → xs[i]? = some v → ∃ t p, v = .ref t ∧ H t = some (.lst [.str p.1, .str p.2]) ∧ ps[i]? = some p
  | [], [], _, _, _, h => by simp at h
  | x :: xs, p :: ps, 0, v, ⟨⟨t, e, h⟩, _⟩, hi => ⟨t, p, by rw [← e]; exact (Option.some.inj hi).symm, h, rfl⟩
  | x :: xs, p :: ps, i + 1, v, ⟨_, r⟩, hi => by
    obtain ⟨t, q, e, h, hq⟩ := r.at (i := i) hi
    exact ⟨t, q, e, h, hq⟩
/-- the ways that a contact opens -/
def waysOf (ms : List Str) (on : List Bool) (c : Ct) : List (Str × Str) := if closedB ms on c = true then (c.one, c.oth) :: (if c.way = bothS then [(c.oth, c.one)] else []) else []
def pairsF (b : Bd) (on : List Bool) (i : Nat) : List (Str × Str) := ((b.contacts.take i).map (waysOf b.movers on)).flatten
theorem pairsF_succ {b : Bd} {on : List Bool} {i : Nat} {c : Ct} (h : b.contacts[i]? = some c) : pairsF b on (i + 1) = pairsF b on i ++ waysOf b.movers on c := by
  unfold pairsF
  rw [List.take_add_one, h, List.map_append, List.flatten_append]
  simp
theorem waysOf_len (ms : List Str) (on : List Bool) (c : Ct) : (waysOf ms on c).length ≤ 2 := by
  unfold waysOf
  split
  · split <;> simp
  · simp
theorem pairsF_len (b : Bd) (on : List Bool) : ∀ i, (pairsF b on i).length ≤ 2 * i
  | 0 => by
    unfold pairsF
    simp
  | i + 1 => by
    have ih := pairsF_len b on i
    cases h : b.contacts[i]? with
    | none =>
      have e : pairsF b on (i + 1) = pairsF b on i := by
        unfold pairsF
        rw [List.take_add_one, h]
        simp
      rw [e]
      omega
    | some c =>
      rw [pairsF_succ h, List.length_append]
      have := waysOf_len b.movers on c
      omega
def spPairs (K : PySem.W.Frag) : Sp := fun vs H Q _ => ∃ (p a : Addr) (b : Bd) (on : List Bool), vs = [.ref p, .ref a] ∧ SpecAt K H p b ∧ Few b ∧ b.Ok ∧ Sq K H a (on.map V.bl) ∧ on.length = b.movers.length ∧
  ∀ H' o xs, Same H H' → H o = none → H' o = some (.lst xs) → PairL H' xs (pairsF b on b.contacts.length) → Q (.ref o) H'
theorem scPairs : FnScope ["spec", "on", "pairs", "contact"] ["spec", "on"] (defScope sLawPairs) := ⟨rfl, rfl, rfl, by decide +kernel, rfl, by decide +kernel, by decide +kernel⟩
theorem ok_pairs {f fV fC : Addr} {fd fdV fdC : FuncData} {k : Nat} (F : Fun K "_law_pairs" "_law_pairs" sLawPairs f fd) (FV : Fun K "_law_movers" "_law_movers" sLawMovers fV fdV) (bV : Binds K fdV ["spec"] []) (gV : mg "_law_movers" = some (.ref fV))
    (FC : Fun K "_law_closed" "_law_closed" sLawClosed fC fdC) (bC : Binds K fdC ["spec", "on", "contact"] []) (gC : mg "_law_closed" = some (.ref fC)) : FnOk P w K mg base CX0 (k + 3) f fd ["spec", "on"] (spPairs K) := by
  have GC : FnOk P w K mg base CX0 (k + 2) fC fdC ["spec", "on", "contact"] (spClosed K) := ok_closed FC FV bV gV
  refine F.ok scPairs (fun vs H Q E h => ?_) (fun cdv A outer s H vs Q E hr h => ?_)
  · obtain ⟨p, a, b, on, rfl, _⟩ := h
    rfl
  · obtain ⟨p, a, b, on, rfl, hp, few, ok, ha, lon, q⟩ := h
    have hp0 := hp
    obtain ⟨n, sw, r, l, c, xr, xl, xc, h0, h1, h2, h3, h4, h5, h6, h7, h8⟩ := hp
    refine ⟨_, pss_cons (ps_set (i := 2) scPairs.nd rfl (.inl rfl) (pe_lst pa_nil))
      (pss_cons (ps_for PassesOwn.never rfl (pi_list (pe_ix ix_list (pv 0) pe_int (fun _ _ => rfl))) (pg_name (i := 3) scPairs.nd rfl (.inl rfl))
        (pss_one (ps_if (pt_val (pe_call GC hr (by rfl) gC FC.kp bC .nil pass0 (pa_cons (pv 0) (pa_cons (pv 1) (pa_cons (pv 3) pa_nil)))))
          (pss_cons (ps_expr (pe_bm PySem.F.plainAttrs_list PySem.F.slot_list_append PySem.F.type_list_append mt_append (pv 2) (pa_cons (pe_lst (pa_cons (pe_ix ix_tup (pv 3) pe_int (fun _ _ => rfl)) (pa_cons (pe_ix ix_tup (pv 3) pe_int (fun _ _ => rfl)) pa_nil))) pa_nil)))
          (pss_one (ps_if (pt_cmpR op_eq (pe_ix ix_tup (pv 3) pe_int (fun _ _ => rfl)) pe_str (nomark _))
            (pss_one (ps_expr (pe_bm PySem.F.plainAttrs_list PySem.F.slot_list_append PySem.F.type_list_append mt_append (pv 2) (pa_cons (pe_lst (pa_cons (pe_ix ix_tup (pv 3) pe_int (fun _ _ => rfl)) (pa_cons (pe_ix ix_tup (pv 3) pe_int (fun _ _ => rfl)) pa_nil))) pa_nil)))) pss_nil))) pss_nil)))
      (pss_one (ps_ret (pv 2)))), ?_⟩
    refine ⟨Nat.zero_le _, fun o no => ?_⟩
    have s1 := same_upd (o := .lst []) no
    have lc := h8.len
    rw [List.length_map] at lc
    have c40 := ok.ct
    refine ⟨_, rfl, p, _, 4, _, rfl, rfl, sq (s1 _ _ h0), rfl, c, rfl, ⟨_, sq (s1 _ _ h5)⟩, for_list (K := K) (a := c) (xs := xc) (fun i σ G => ∃ (z3 : Option V) (xs : List V), σ = [some (.ref p), some (.ref a), some (.ref o), z3] ∧ Same H G ∧ G o = some (.lst xs) ∧ PairL G xs (pairsF b on i) ∧ ∀ v ∈ xs, v ≠ .ref o) ⟨none, [], rfl, s1, upd_same, by unfold pairsF; simp; exact True.intro, fun v hv => by cases hv⟩ (fun i σ G _ ⟨_, _, _, sm, _⟩ => sq (sm _ _ h5)) ?_ ?_⟩
    · rintro i v σ G hi ⟨z3, xs, rfl, sm, ho, hP, hno⟩
      have hil := (List.getElem?_eq_some_iff.mp hi).1
      obtain ⟨tt, rw_, rfl, hrow, hri⟩ := h8.at hi
      rw [List.getElem?_map] at hri
      obtain ⟨ct, hct, rfl⟩ := Option.map_eq_some_iff.mp hri
      have lp := pairsF_len b on i
      have lx := hP.len
      refine ⟨_, rfl, _, rfl, _, rfl, p, a, tt, b, on, ct, rfl, hp0.mono sm, few, Same.sq sm ha, lon, Same.sqt sm hrow, ok.cts ct (List.mem_of_getElem? hct), fun G2 g2 => ⟨_, rfl, ?_⟩⟩
      have ho2 := g2 _ _ ho
      have hP2 := hP.mono g2
      have sm2 := sm.trans g2
      have hr2 := Same.sqt sm2 hrow
      cases ec : closedB b.movers on ct with
      | false =>
        refine iteF ?_
        have ew : waysOf b.movers on ct = [] := by
          unfold waysOf
          rw [ec]
          rfl
        exact ⟨_, xs, rfl, sm2, ho2, by rw [pairsF_succ hct, ew, List.append_nil]; exact hP2, hno⟩
      | true =>
        refine iteT ?_
        refine ⟨_, rfl, .inl ⟨rfl, _, sq ho2⟩, _, rfl, tt, _, 0, _, rfl, rfl, hr2, rfl, _, rfl, tt, _, 1, _, rfl, rfl, hr2, rfl, by show 2 ≤ sizeLine; decide, fun t1 m1 => ?_⟩
        have g3 := same_upd (o := .lst [.str ct.one, .str ct.oth]) m1
        have n1 : o ≠ t1 := ne_of_none ho2 m1
        refine ⟨o, _, _, rfl, rfl, g3 _ _ ho2, szlt (by omega), ?_⟩
        have hP3 : PairL (upd (upd G2 t1 (.lst [.str ct.one, .str ct.oth])) o (.lst (xs ++ [.ref t1]))) (xs ++ [.ref t1]) (pairsF b on i ++ [(ct.one, ct.oth)]) := by
          refine PairL.snoc (p := (ct.one, ct.oth)) (by rw [upd_ne n1.symm]; exact upd_same) ((hP2.mono g3).upd hno)
        have hno3 : ∀ v ∈ xs ++ [V.ref t1], v ≠ .ref o := fun v hv => by
          rcases List.mem_append.mp hv with h | h
          · exact hno v h
          · rw [List.mem_singleton.mp h]
            exact fun z => n1 (V.ref.inj z).symm
        have sm3 : Same H (upd (upd G2 t1 (.lst [.str ct.one, .str ct.oth])) o (.lst (xs ++ [.ref t1]))) := same_mut (sm2.trans g3) no
        have ho3 := upd_same (H := upd G2 t1 (.lst [.str ct.one, .str ct.oth])) (a := o) (o := .lst (xs ++ [.ref t1]))
        generalize upd (upd G2 t1 (.lst [.str ct.one, .str ct.oth])) o (.lst (xs ++ [.ref t1])) = G4 at *
        have hr4 := Same.sqt sm3 hrow
        refine ⟨_, rfl, tt, _, 4, _, rfl, rfl, hr4, rfl, rfl, _, rfl, ?_⟩
        refine ite2 (fun e => ?_) (fun e => ?_)
        · have eb : ct.way = bothS := V.str.inj (of_decide_eq_true e)
          have ew : waysOf b.movers on ct = [(ct.one, ct.oth), (ct.oth, ct.one)] := by
            unfold waysOf
            rw [ec, if_pos rfl, if_pos eb]
          refine ⟨_, rfl, .inl ⟨rfl, _, sq ho3⟩, _, rfl, tt, _, 1, _, rfl, rfl, hr4, rfl, _, rfl, tt, _, 0, _, rfl, rfl, hr4, rfl, by show 2 ≤ sizeLine; decide, fun t2 m2 => ?_⟩
          have g5 := same_upd (o := .lst [.str ct.oth, .str ct.one]) m2
          have n2 : o ≠ t2 := ne_of_none ho3 m2
          refine ⟨o, _, _, rfl, rfl, g5 _ _ ho3, szlt (by rw [List.length_append]; show _ + 1 ≤ 1000000; omega), ?_⟩
          refine ⟨_, (xs ++ [.ref t1]) ++ [.ref t2], rfl, same_mut (sm3.trans g5) no, upd_same, ?_, fun v hv => ?_⟩
          · rw [pairsF_succ hct, ew, show [(ct.one, ct.oth), (ct.oth, ct.one)] = [(ct.one, ct.oth)] ++ [(ct.oth, ct.one)] from rfl, ← List.append_assoc]
            exact PairL.snoc (p := (ct.oth, ct.one)) (by rw [upd_ne n2.symm]; exact upd_same) ((hP3.mono g5).upd hno3)
          · rcases List.mem_append.mp hv with h | h
            · exact hno3 v h
            · rw [List.mem_singleton.mp h]
              exact fun z => n2 (V.ref.inj z).symm
        · have eb : ¬ ct.way = bothS := fun z => e (decide_eq_true (congrArg V.str z))
          have ew : waysOf b.movers on ct = [(ct.one, ct.oth)] := by
            unfold waysOf
            rw [ec, if_pos rfl, if_neg eb]
          exact ⟨_, _, rfl, sm3, ho3, by rw [pairsF_succ hct, ew]; exact hP3, hno3⟩
    · rintro σ G ⟨z3, xs, rfl, sm, ho, hP, hno⟩
      rw [lc] at hP
      exact ⟨_, rfl, q G o xs sm no ho hP⟩
/-! ### _law_reach -/
def stepB (f : List Str) (p : Str × Str) : Bool := decide (p.1 ∈ f) && !decide (p.2 ∈ f)
def moreF (ps : List (Str × Str)) (f : List Str) : List Str := (ps.filter (stepB f)).map (·.2)
def reachF (ps : List (Str × Str)) : List Str → Nat → List Str
  | f, 0 => f
  | f, n + 1 => if moreF ps f = [] then f else reachF ps (f ++ moreF ps f) n
theorem moreF_len (ps : List (Str × Str)) (f : List Str) : (moreF ps f).length ≤ ps.length := by
  unfold moreF
  rw [List.length_map]
  exact List.length_filter_le _ _
theorem moreF_t {ps : List (Str × Str)} {f : List Str} {j : Nat} {p : Str × Str} (h : ps[j]? = some p) (e : stepB f p = true) : moreF (ps.take (j + 1)) f = moreF (ps.take j) f ++ [p.2] := by
  unfold moreF
  rw [List.take_add_one, h, List.filter_append, List.map_append]
  show _ ++ List.map _ (List.filter (stepB f) [p]) = _
  rw [List.filter_cons_of_pos e, List.filter_nil]
  rfl
theorem moreF_f {ps : List (Str × Str)} {f : List Str} {j : Nat} {p : Str × Str} (h : ps[j]? = some p) (e : stepB f p = false) : moreF (ps.take (j + 1)) f = moreF (ps.take j) f := by
  unfold moreF
  rw [List.take_add_one, h, List.filter_append, List.map_append]
  show _ ++ List.map _ (List.filter (stepB f) [p]) = _
  rw [List.filter_cons_of_neg (by rw [e]; exact Bool.false_ne_true), List.filter_nil]
  exact List.append_nil _
def spReach (K : PySem.W.Frag) : Sp := fun vs H Q _ => ∃ (p a : Addr) (b : Bd) (xs : List V) (ps : List (Str × Str)) (z : Str), vs = [.ref p, .ref a, .str z] ∧ SpecAt K H p b ∧ b.nodes.length ≤ 16 ∧ H a = some (.lst xs) ∧ PairL H xs ps ∧ ps.length ≤ 100 ∧
  ∀ H' o, Same H H' → H o = none → H' o = some (.lst ((reachF ps [z] b.nodes.length).map V.str)) → Q (.ref o) H'
theorem scReach : FnScope ["spec", "pairs", "start", "found", "turn", "more", "pair"] ["spec", "pairs", "start"] (defScope sLawReach) := ⟨rfl, rfl, rfl, by decide +kernel, rfl, by decide +kernel, by decide +kernel⟩
theorem ok_reach {f : Addr} {fd : FuncData} {k : Nat} (F : Fun K "_law_reach" "_law_reach" sLawReach f fd) (mr : mg "range" = none) (ml : mg "len" = none) : FnOk P w K mg base CX0 (k + 1) f fd ["spec", "pairs", "start"] (spReach K) := by
  refine F.ok scReach (fun vs H Q E h => ?_) (fun cdv A outer s H vs Q E hr h => ?_)
  · obtain ⟨p, a, b, xs, ps, z, rfl, _⟩ := h
    rfl
  · obtain ⟨p, a, b, xs, ps, z, rfl, hp, b16, ha, hP, p100, q⟩ := h
    obtain ⟨n, sw, r, l, c, xr, xl, xc, h0, h1, h2, h3, h4, h5, h6, h7, h8⟩ := hp
    refine ⟨_, pss_cons (ps_set (i := 3) scReach.nd rfl (.inr rfl) (pe_lst (pa_cons (pv 2) pa_nil)))
      (pss_cons (ps_for PassesOwn.never rfl (pi_range1 rfl mr (pa_cons (pe_callB call_len_seq (by rfl) ml PySem.boot_len (pa_cons (pe_ix ix_list (pv 0) pe_int (fun _ _ => rfl)) pa_nil)) pa_nil)) (pg_name (i := 4) scReach.nd rfl (.inl rfl))
        (pss_cons (ps_setLc (i := 5) (own := [("pair", 6)]) (g := gName 6) (tt := tAnd (tTest (tOp (rIn K false) (tOp (rIxL K) (tVar 6) (tC (.int 0))) (tVar 3))) (tTest (tOp (rIn K true) (tOp (rIxL K) (tVar 6) (tC (.int 1))) (tVar 3)))) (te := tOp (rIxL K) (tVar 6) (tC (.int 1))) rfl scReach.nd rfl rfl (sw_true rfl rfl rfl (by decide +kernel)) (pi_list (pv 1)) (blkOk_by (N := ["spec", "pairs", "start", "found", "turn", "more", "pair"]) (sc := defScope sLawReach) (by decide +kernel)) (fun _ _ _ _ _ => pg_name (i := 6) scReach.nd rfl (Or.inl rfl))
            (fun _ _ _ _ _ => pts_one (PW.pt (pw_and (pt_cmpR op_in_seq (pe_ix ix_list (pv 6) pe_int (fun _ _ => rfl)) (pv 3) (by rfl)) (pw_and1 (pt_cmpR op_notIn_seq (pe_ix ix_list (pv 6) pe_int (fun _ _ => rfl)) (pv 3) (by rfl))))))
            (fun _ _ _ _ _ => pe_ix ix_list (pv 6) pe_int (fun _ _ => rfl)))
        (pss_cons (ps_if (pt_cmpR op_eq (pe_callB call_len_seq (by rfl) ml PySem.boot_len (pa_cons (pv 5) pa_nil)) pe_int (nomark _)) (pss_one (ps_ret (pv 3))) pss_nil)
        (pss_one (ps_set (i := 3) scReach.nd rfl (.inr rfl) (pe_op op_cat (pv 3) (pv 5)))))))
      (pss_one (ps_ret (pv 3)))), ?_⟩
    have lx := hP.len
    refine ⟨_, rfl, by show 1 ≤ sizeLine; decide, fun o0 n0 => ?_⟩
    have s1 := same_upd (o := .lst [.str z]) n0
    refine ⟨_, rfl, p, _, 0, _, rfl, rfl, sq (s1 _ _ h0), rfl, n, _, rfl, .inl (sq (s1 _ _ h1)), (b.nodes.length : Int), by rw [List.length_map], by omega, by omega, ?_⟩
    refine for_range (lo := 0) (n := (b.nodes.length : Int).toNat) (fun i σ G => ∃ (o : Addr) (g : List Str) (z4 z5 : Option V), σ = [some (.ref p), some (.ref a), some (.str z), some (.ref o), z4, z5, none] ∧ Same H G ∧ H o = none ∧ G o = some (.lst (g.map V.str)) ∧ g.length ≤ 1 + i * 100 ∧ reachF ps [z] b.nodes.length = reachF ps g (b.nodes.length - i)) ⟨o0, [z], none, none, rfl, s1, n0, upd_same, by simp, rfl⟩ ?_ ?_
    · rintro i σ G hi ⟨o, g, z4, z5, rfl, sm, no, hg, gl, er⟩
      have hi16 : i < b.nodes.length := by omega
      have gl2 : g.length ≤ 1601 := by omega
      refine ⟨_, rfl, a, rfl, ⟨_, sq (sm _ _ ha)⟩, fun D nD => ?_⟩
      refine lc_list (K := K) (a := a) (xs := xs) (fun j G2 => Same G G2 ∧ G2 D = some (.lst ((moreF (ps.take j) g).map V.str))) ⟨same_upd nD, upd_same⟩ (fun j G2 _ h => sq (h.1 _ _ (sm _ _ ha))) ?_ ?_
      · rintro j v G2 hj ⟨gs, hd⟩
        obtain ⟨t, pr, rfl, ht, hpr⟩ := hP.at hj
        have ht2 := gs _ _ (sm _ _ ht)
        have hg2 := gs _ _ hg
        have lm := moreF_len (ps.take j) g
        rw [List.length_take] at lm
        refine ⟨rfl, _, rfl, t, _, 0, _, rfl, rfl, sq ht2, rfl, _, rfl, o, _, rfl, .inl (sq hg2), rfl, flat_strs _, _, rfl, ?_⟩
        rw [if_neg Bool.false_ne_true, inV_str]
        refine ite2 (fun e1 => ?_) (fun e1 => ?_)
        · refine ⟨_, rfl, t, _, 1, _, rfl, rfl, sq ht2, rfl, _, rfl, o, _, rfl, .inl (sq hg2), rfl, flat_strs _, _, rfl, ?_⟩
          rw [if_pos rfl, inV_str]
          refine ite2 (fun e2 => ?_) (fun e2 => ?_)
          · have es : stepB g pr = true := by
              unfold stepB
              rw [e1, e2]
              rfl
            refine ⟨_, rfl, t, _, 1, _, rfl, rfl, sq ht2, rfl, _, hd, ?_, same_mut gs nD, ?_⟩
            · rw [List.length_map]
              exact szlt (by omega)
            · rw [upd_same, moreF_t hpr es, map_snoc]
          · have es : stepB g pr = false := by
              unfold stepB
              rw [e1, Bool.eq_false_iff.mpr e2]
              rfl
            exact ⟨gs, by rw [moreF_f hpr es]; exact hd⟩
        · have es : stepB g pr = false := by
            unfold stepB
            rw [Bool.eq_false_iff.mpr e1]
            rfl
          exact ⟨gs, by rw [moreF_f hpr es]; exact hd⟩
      rintro G2 ⟨gs, hd⟩
      rw [lx, List.take_length] at hd
      have lm := moreF_len ps g
      have sm2 := sm.trans gs
      have hg2 := gs _ _ hg
      have er2 : reachF ps g (b.nodes.length - i) = if moreF ps g = [] then g else reachF ps (g ++ moreF ps g) (b.nodes.length - (i + 1)) := by
        rw [show b.nodes.length - i = (b.nodes.length - (i + 1)) + 1 by omega]
        rfl
      refine ⟨_, rfl, D, _, rfl, .inl (sq hd), rfl, _, rfl, ?_⟩
      refine ite2 (fun e => ?_) (fun e => ?_)
      · have e := V.int.inj (of_decide_eq_true e)
        rw [List.length_map] at e
        have e0 : moreF ps g = [] := List.eq_nil_of_length_eq_zero (by omega)
        rw [e0, if_pos rfl] at er2
        exact ⟨_, rfl, q G2 o sm2 no (by rw [er, er2]; exact hg2)⟩
      · have e0 : moreF ps g ≠ [] := fun z => e (decide_eq_true (by rw [z]; rfl))
        rw [if_neg e0] at er2
        refine ⟨_, rfl, _, rfl, o, D, _, _, rfl, rfl, hg2, hd, szl (by rw [List.length_map, List.length_map]; omega), fun o2 n2 => ?_⟩
        refine ⟨o2, g ++ moreF ps g, _, _, rfl, sm2.trans (same_upd n2), sm2.free n2, by rw [upd_same, List.map_append], by rw [List.length_append]; omega, er.trans er2⟩
    · rintro σ G ⟨o, g, z4, z5, rfl, sm, no, hg, gl, er⟩
      rw [show b.nodes.length - (b.nodes.length : Int).toNat = 0 by omega] at er
      exact ⟨_, rfl, q G o sm no (by rw [er]; exact hg)⟩
/-! ### _law_reaches, _law_state -/
def n0 (b : Bd) : Str := b.nodes.getD 0 ""
def n1 (b : Bd) : Str := b.nodes.getD 1 ""
theorem nodes01 {b : Bd} (ok : b.Ok) : b.nodes[0]? = some (n0 b) ∧ b.nodes[1]? = some (n1 b) ∧ b.nodes.length ≤ 16 := by
  have h := areNm_names ok.nodes
  have l := h.2.2.1
  refine ⟨?_, ?_, h.2.2.2⟩
  · unfold n0
    rw [List.getD_eq_getElem?_getD, List.getElem?_eq_getElem (show 0 < b.nodes.length by omega)]
    rfl
  · unfold n1
    rw [List.getD_eq_getElem?_getD, List.getElem?_eq_getElem (show 1 < b.nodes.length by omega)]
    rfl
theorem at_row {zs : List Str} {i : Nat} {z : Str} (h : zs[i]? = some z) : atI (zs.map V.str) (i : Int) = some (.str z) := atI_nat (by rw [List.getElem?_map, h]; rfl)
def fedF (b : Bd) (on : List Bool) : List Str := reachF (pairsF b on b.contacts.length) [n0 b] b.nodes.length
def shortF (b : Bd) (on : List Bool) : Bool := decide (n1 b ∈ fedF b on)
def spReaches (K : PySem.W.Frag) : Sp := fun vs H Q _ => ∃ (p a : Addr) (b : Bd) (on : List Bool), vs = [.ref p, .ref a] ∧ SpecAt K H p b ∧ Few b ∧ b.Ok ∧ Sq K H a (on.map V.bl) ∧ on.length = b.movers.length ∧ ∀ H', Same H H' → Q (.bl (shortF b on)) H'
theorem scReaches : FnScope ["spec", "on"] ["spec", "on"] (defScope sLawReaches) := ⟨rfl, rfl, rfl, by decide +kernel, rfl, by decide +kernel, by decide +kernel⟩
theorem ok_reaches {f fV fC fP fR : Addr} {fd fdV fdC fdP fdR : FuncData} {k : Nat} (F : Fun K "_law_reaches" "_law_reaches" sLawReaches f fd) (FV : Fun K "_law_movers" "_law_movers" sLawMovers fV fdV) (bV : Binds K fdV ["spec"] []) (gV : mg "_law_movers" = some (.ref fV))
    (FC : Fun K "_law_closed" "_law_closed" sLawClosed fC fdC) (bC : Binds K fdC ["spec", "on", "contact"] []) (gC : mg "_law_closed" = some (.ref fC)) (FP : Fun K "_law_pairs" "_law_pairs" sLawPairs fP fdP) (bP : Binds K fdP ["spec", "on"] []) (gP : mg "_law_pairs" = some (.ref fP))
    (FR : Fun K "_law_reach" "_law_reach" sLawReach fR fdR) (bR : Binds K fdR ["spec", "pairs", "start"] []) (gR : mg "_law_reach" = some (.ref fR)) (mr : mg "range" = none) (ml : mg "len" = none) : FnOk P w K mg base CX0 (k + 4) f fd ["spec", "on"] (spReaches K) := by
  have GP : FnOk P w K mg base CX0 (k + 3) fP fdP ["spec", "on"] (spPairs K) := ok_pairs FP FV bV gV FC bC gC
  have GR : FnOk P w K mg base CX0 (k + 1) fR fdR ["spec", "pairs", "start"] (spReach K) := ok_reach FR mr ml
  refine F.ok scReaches (fun vs H Q E h => ?_) (fun cdv A outer s H vs Q E hr h => ?_)
  · obtain ⟨p, a, b, on, rfl, _⟩ := h
    rfl
  · obtain ⟨p, a, b, on, rfl, hp, few, ok, ha, lon, q⟩ := h
    have hr1 : Room (k + 1) _ := hr.mono (by omega)
    obtain ⟨z0, z1, l16⟩ := nodes01 ok
    refine ⟨_, pss_one (ps_ret (pe_cmpR op_in_seq (pe_ix ix_list (pe_ix ix_list (pv 0) pe_int (fun _ _ => rfl)) pe_int (fun _ _ => rfl))
      (pe_call GR hr1 (by rfl) gR FR.kp bR .nil pass0 (pa_cons (pv 0) (pa_cons (pe_call GP hr (by rfl) gP FP.kp bP .nil pass0 (pa_cons (pv 0) (pa_cons (pv 1) pa_nil))) (pa_cons (pe_ix ix_list (pe_ix ix_list (pv 0) pe_int (fun _ _ => rfl)) pe_int (fun _ _ => rfl)) pa_nil)))) (by rfl))), ?_⟩
    have hp0 := hp
    obtain ⟨n, sw, r, l, c, xr, xl, xc, h0, h1, h2, h3, h4, h5, h6, h7, h8⟩ := hp
    refine ⟨_, rfl, p, _, 0, _, rfl, rfl, sq h0, rfl, n, _, 1, _, rfl, rfl, sq h1, at_row z1, _, rfl, _, rfl, _, rfl, p, a, b, on, rfl, hp0, few, ok, ha, lon, fun H1 o xs s1 no ho hP => ?_⟩
    have lp := pairsF_len b on b.contacts.length
    have c40 := ok.ct
    refine ⟨_, rfl, p, _, 0, _, rfl, rfl, sq (s1 _ _ h0), rfl, n, _, 0, _, rfl, rfl, sq (s1 _ _ h1), at_row z0, p, o, b, xs, _, n0 b, rfl, hp0.mono s1, l16, ho, hP, by omega, fun H2 o2 s2 no2 ho2 => ?_⟩
    refine ⟨o2, _, rfl, .inl (sq ho2), rfl, flat_strs _, ?_⟩
    rw [if_neg Bool.false_ne_true, inV_str]
    exact q H2 (s1.trans s2)
def spState (K : PySem.W.Frag) : Sp := fun vs H Q _ => ∃ (p a : Addr) (at_ : Nat) (b : Bd) (ns : List Int), vs = [.ref p, .ref a, .int at_] ∧ SpecAt K H p b ∧ Few b ∧ b.Ok ∧ SqL K H a (ns.map V.int) ∧ Nums ns ∧ at_ + 15 ≤ ns.length ∧
  ∀ H' t tt (on : List Bool) (u : Bool), Same H H' → H t = none → H' t = some (.tup [.ref tt, .bl (u || shortF b on)]) → SqT K H' tt (on.map V.bl) → on.length = b.movers.length → Q (.ref t) H'
theorem scState : FnScope ["spec", "numbers", "at", "movers", "on", "k"] ["spec", "numbers", "at"] (defScope sLawState) := ⟨rfl, rfl, rfl, by decide +kernel, rfl, by decide +kernel, by decide +kernel⟩
theorem ok_state {f fV fC fP fR fS : Addr} {fd fdV fdC fdP fdR fdS : FuncData} {k : Nat} (F : Fun K "_law_state" "_law_state" sLawState f fd) (FV : Fun K "_law_movers" "_law_movers" sLawMovers fV fdV) (bV : Binds K fdV ["spec"] []) (gV : mg "_law_movers" = some (.ref fV))
    (FC : Fun K "_law_closed" "_law_closed" sLawClosed fC fdC) (bC : Binds K fdC ["spec", "on", "contact"] []) (gC : mg "_law_closed" = some (.ref fC)) (FP : Fun K "_law_pairs" "_law_pairs" sLawPairs fP fdP) (bP : Binds K fdP ["spec", "on"] []) (gP : mg "_law_pairs" = some (.ref fP))
    (FR : Fun K "_law_reach" "_law_reach" sLawReach fR fdR) (bR : Binds K fdR ["spec", "pairs", "start"] []) (gR : mg "_law_reach" = some (.ref fR)) (FS : Fun K "_law_reaches" "_law_reaches" sLawReaches fS fdS) (bS : Binds K fdS ["spec", "on"] []) (gS : mg "_law_reaches" = some (.ref fS))
    (mr : mg "range" = none) (ml : mg "len" = none) (mi : mg "int" = none) (mt : mg "tuple" = none) : FnOk P w K mg base CX0 (k + 5) f fd ["spec", "numbers", "at"] (spState K) := by
  have GV : FnOk P w K mg base CX0 (k + 1) fV fdV ["spec"] (spMoversL K) := ok_moversL FV
  have GS : FnOk P w K mg base CX0 (k + 4) fS fdS ["spec", "on"] (spReaches K) := ok_reaches FS FV bV gV FC bC gC FP bP gP FR bR gR mr ml
  refine F.ok scState (fun vs H Q E h => ?_) (fun cdv A outer s H vs Q E hr h => ?_)
  · obtain ⟨p, a, at_, b, ns, rfl, _⟩ := h
    rfl
  · obtain ⟨p, a, at_, b, ns, rfl, hp, few, ok, hS, hn, hl, q⟩ := h
    have hr1 : Room (k + 1) _ := hr.mono (by omega)
    refine ⟨_, pss_cons (ps_set (i := 3) scState.nd rfl (.inl rfl) (pe_call GV hr1 (by rfl) gV FV.kp bV .nil pass0 (pa_cons (pv 0) pa_nil)))
      (pss_cons (ps_setLc (i := 4) (own := [("k", 5)]) (g := gName 5) (tt := tYes) (te := tOp rEq (tOp rModW (tCB (fun xs H Q => (∃ i, xs = [.int i] ∧ Q (.int i) H) ∨ ∃ k, xs = [.bl k] ∧ Q (.int (if k then 1 else 0)) H) (tCons (tOp (rIxL K) (tVar 1) (tOp (rI0 fun i j => .int (i + j)) (tVar 2) (tVar 5))) tNil)) (tC (.int 2))) (tC (.int 1))) rfl scState.nd rfl rfl (sw_true rfl rfl rfl (by decide +kernel)) (pi_range1 rfl mr (pa_cons (pe_callB call_len_seq (by rfl) ml PySem.boot_len (pa_cons (pv 3) pa_nil)) pa_nil)) (blkOk_by (N := ["spec", "numbers", "at", "movers", "on", "k"]) (sc := defScope sLawState) (by decide +kernel)) (fun _ _ _ _ _ => pg_name (i := 5) scState.nd rfl (Or.inl rfl)) (fun _ _ _ _ _ => pts_nil)
          (fun _ _ _ _ _ => pe_cmpR op_eq (pe_op op_modW (pe_callTy call_int1 (by rfl) mi (by decide +kernel) (pa_cons (pe_ix ix_list (pv 1) (pe_op op_add (pv 2) (pv 5)) (fun _ _ => rfl)) pa_nil)) pe_int) pe_int (nomark _)))
      (pss_one (ps_ret (pe_tup (pa_cons (pe_callTy call_tupA (by rfl) mt (by decide +kernel) (pa_cons (pv 4) pa_nil)) (pa_cons (pe_or (pe_cmpR op_eq (pe_op op_modW (pe_callTy call_int1 (by rfl) mi (by decide +kernel) (pa_cons (pe_ix ix_list (pv 1) (pe_op op_add (pv 2) pe_int) (fun _ _ => rfl)) pa_nil)) pe_int) pe_int (nomark _))
        (pe_one (pe_call GS hr (by rfl) gS FS.kp bS .nil pass0 (pa_cons (pv 0) (pa_cons (pv 4) pa_nil))))) pa_nil)))))), ?_⟩
    have m14 : b.movers.length ≤ 14 := by
      show (b.switches ++ b.relays.map (·.nm)).length ≤ 14
      rw [List.length_append, List.length_map]
      have := ok.sw
      have := ok.rl
      omega
    refine ⟨_, rfl, p, b, rfl, hp, few, fun H1 om s1 nm hm => ?_⟩
    have hS1 := s1.seq hS
    refine ⟨_, rfl, om, _, rfl, .inl (sq hm), (b.movers.length : Int), by rw [List.length_map], by omega, by omega, fun D nD => ?_⟩
    refine lc_range (lo := 0) (n := (b.movers.length : Int).toNat) (fun i G => ∃ on : List Bool, Same H1 G ∧ G D = some (.lst (on.map V.bl)) ∧ on.length = i) ⟨[], same_upd nD, upd_same, rfl⟩ ?_ ?_
    · rintro i G hi ⟨on, gs, hd, lo⟩
      obtain ⟨_, _, gi⟩ := at_get hn (show at_ + i < ns.length by omega)
      refine ⟨rfl, ?_⟩
      refine yesT ?_
      refine ⟨_, rfl, _, rfl, _, rfl, _, _, rfl, rfl, a, _, _, _, rfl, rfl, gs.seq hS1, gi _ (by omega), .inl ⟨_, rfl, ?_⟩⟩
      refine modE (by decide) fun r _ hr2 => ?_
      refine ⟨rfl, _, hd, szlt (by rw [List.length_map]; omega), on ++ [_], same_mut gs nD, by rw [upd_same, map_snoc], by rw [List.length_append, lo]; rfl⟩
    rintro H2 ⟨on, s2, hd, lo⟩
    have lon : on.length = b.movers.length := by omega
    have s12 := s1.trans s2
    obtain ⟨_, _, g14⟩ := at_get hn (show at_ + 14 < ns.length by omega)
    refine ⟨_, rfl, ?_⟩
    refine tup_any (.inl (sq hd)) fun tt H3 s3 ht => ?_
    have s13 := s12.trans s3
    have hd3 := s3 _ _ hd
    refine ⟨_, rfl, _, rfl, _, _, rfl, rfl, a, _, _, _, rfl, rfl, s13.seq hS, g14 _ (by omega), .inl ⟨_, rfl, ?_⟩⟩
    refine modE (by decide) fun r _ hr2 => ?_
    refine ⟨rfl, _, rfl, ?_⟩
    refine ite2 (fun e => ?_) (fun e => ?_)
    · refine ⟨by show 2 ≤ sizeLine; decide, fun t nt => ?_⟩
      have s4 := same_upd (o := .tup [.ref tt, .bl true]) nt
      have ht4 : (upd H3 t (.tup [.ref tt, .bl true])) t = some (.tup [.ref tt, .bl (true || shortF b on)]) := upd_same
      exact q _ t tt on true (s13.trans s4) (s13.free nt) ht4 (Same.sqt s4 ht) lon
    · refine ⟨_, rfl, _, rfl, p, D, b, on, rfl, hp.mono s13, few, ok, .inl (sq hd3), lon, fun H4 s4 => ?_⟩
      refine ⟨by show 2 ≤ sizeLine; decide, fun t nt => ?_⟩
      have s5 := same_upd (o := .tup [.ref tt, .bl (shortF b on)]) nt
      refine q _ t tt on false ((s13.trans s4).trans s5) ((s13.trans s4).free nt) ?_ (Same.sqt (s4.trans s5) ht) lon
      rw [upd_same, Bool.false_or]
/-! ### what _law_reach finds: all that the pairs lead to -/
theorem nodup_len : ∀ (xs ys : List Str), xs.Nodup → (∀ x ∈ xs, x ∈ ys) → xs.length ≤ ys.length
  | [], _, _, _ => Nat.zero_le _
  | x :: xs, ys, nd, h => by
    rw [List.nodup_cons] at nd
    have hx := h x List.mem_cons_self
    have ih := nodup_len xs (ys.erase x) nd.2 fun y hy => (List.mem_erase_of_ne (fun (e : y = x) => nd.1 (e ▸ hy))).mpr (h y (List.mem_cons_of_mem _ hy))
    rw [List.length_erase_of_mem hx] at ih
    have := List.length_pos_of_mem hx
    rw [List.length_cons]
    omega

inductive Path (ps : List (Str × Str)) (z : Str) : Str → Prop where
  | base : Path ps z z
  | step {x y : Str} (h : Path ps z x) (e : (x, y) ∈ ps) : Path ps z y
theorem mem_moreF {ps : List (Str × Str)} {f : List Str} {y : Str} : y ∈ moreF ps f ↔ ∃ x, (x, y) ∈ ps ∧ x ∈ f ∧ y ∉ f := by
  unfold moreF stepB
  constructor
  · intro h
    obtain ⟨p, hp, rfl⟩ := List.mem_map.mp h
    have hp := List.mem_filter.mp hp
    have h2 := hp.2
    simp only [Bool.and_eq_true, decide_eq_true_eq, Bool.not_eq_true', decide_eq_false_iff_not] at h2
    exact ⟨p.1, hp.1, h2.1, h2.2⟩
  · rintro ⟨x, h1, h2, h3⟩
    refine List.mem_map.mpr ⟨(x, y), List.mem_filter.mpr ⟨h1, ?_⟩, rfl⟩
    simp only [Bool.and_eq_true, decide_eq_true_eq, Bool.not_eq_true', decide_eq_false_iff_not]
    exact ⟨h2, h3⟩
theorem reachF_sound {ps : List (Str × Str)} {z : Str} : ∀ (n : Nat) (f : List Str), (∀ x ∈ f, Path ps z x) → ∀ x ∈ reachF ps f n, Path ps z x
  | 0, f, h => h
  | n + 1, f, h => by
    unfold reachF
    split
    · exact h
    · refine reachF_sound n _ fun x hx => ?_
      rcases List.mem_append.mp hx with hx | hx
      · exact h x hx
      · obtain ⟨y, h1, h2, _⟩ := mem_moreF.mp hx
        exact .step (h y h2) h1
theorem reachF_sub {ps : List (Str × Str)} : ∀ (n : Nat) (f : List Str), ∀ x ∈ f, x ∈ reachF ps f n
  | 0, f, x, h => h
  | n + 1, f, x, h => by
    unfold reachF
    split
    · exact h
    · exact reachF_sub n _ x (List.mem_append.mpr (.inl h))
theorem reachF_grows {ps : List (Str × Str)} : ∀ (n : Nat) (f ds : List Str) (k : Nat), ds.Nodup → (∀ d ∈ ds, d ∈ f) → k ≤ ds.length → moreF ps (reachF ps f n) = [] ∨ ∃ es : List Str, es.Nodup ∧ (∀ e ∈ es, e ∈ reachF ps f n) ∧ k + n ≤ es.length
  | 0, f, ds, k, h1, h2, h3 => .inr ⟨ds, h1, h2, by omega⟩
  | n + 1, f, ds, k, h1, h2, h3 => by
    unfold reachF
    split
    · rename_i h
      exact .inl h
    · rename_i h
      obtain ⟨y, hy⟩ := List.exists_mem_of_ne_nil _ h
      obtain ⟨x, _, _, hn⟩ := mem_moreF.mp hy
      have ih := reachF_grows (ps := ps) n (f ++ moreF ps f) (y :: ds) (k + 1) (List.nodup_cons.mpr ⟨fun hd => hn (h2 y hd), h1⟩) (fun d hd => by
        rcases List.mem_cons.mp hd with e | hd
        · rw [e]
          exact List.mem_append.mpr (.inr hy)
        · exact List.mem_append.mpr (.inl (h2 d hd))) (by rw [List.length_cons]; omega)
      rcases ih with h | ⟨es, a, b, c⟩
      · exact .inl h
      · exact .inr ⟨es, a, b, by omega⟩
theorem Path.sub {ps : List (Str × Str)} {z : Str} {nodes : List Str} (hz : z ∈ nodes) (hp : ∀ p ∈ ps, p.2 ∈ nodes) : ∀ {x}, Path ps z x → x ∈ nodes
  | _, .base => hz
  | _, .step _ e => hp _ e
theorem reachF_mem {ps : List (Str × Str)} {z : Str} {nodes : List Str} (hz : z ∈ nodes) (hp : ∀ p ∈ ps, p.2 ∈ nodes) {x : Str} : x ∈ reachF ps [z] nodes.length ↔ Path ps z x := by
  have snd := reachF_sound (ps := ps) (z := z) nodes.length [z] (fun x hx => by rw [List.mem_singleton.mp hx]; exact .base)
  constructor
  · exact snd x
  · intro h
    rcases reachF_grows (ps := ps) nodes.length [z] [z] 1 (by simp) (fun d hd => hd) (Nat.le_refl _) with hm | ⟨es, h1, h2, h3⟩
    · induction h with
      | base => exact reachF_sub _ _ z (List.mem_singleton.mpr rfl)
      | @step a b _ e ih =>
        by_cases hb : b ∈ reachF ps [z] nodes.length
        · exact hb
        · have : b ∈ moreF ps (reachF ps [z] nodes.length) := mem_moreF.mpr ⟨a, e, ih, hb⟩
          rw [hm] at this
          cases this
    · have := nodup_len es nodes h1 fun e he => (snd e (h2 e he)).sub hz hp
      omega
/-! ### _spread -/
def natV (n : Nat) : V := .int (n : Int)
def outs (ps : List (Nat × Nat)) (j : Nat) : List Nat := (ps.filter fun p => decide (p.1 = j)).map (·.2)
structure Heads (H : Hp) (as : List Addr) (f : Nat → List Nat) : Prop where
  nd : as.Nodup
  at_ : ∀ (j : Nat) (a : Addr), as[j]? = some a → H a = some (.lst ((f j).map natV))
theorem Heads.mono {H H' : Hp} {as : List Addr} {f : Nat → List Nat} (s : Same H H') (h : Heads H as f) : Heads H' as f := ⟨h.nd, fun j a e => s _ _ (h.at_ j a e)⟩
theorem Heads.upd {H : Hp} {as : List Addr} {f : Nat → List Nat} {o : Addr} {ho : HO} (hn : ∀ a ∈ as, a ≠ o) (h : Heads H as f) : Heads (upd H o ho) as f :=
  ⟨h.nd, fun j a e => by
    rw [upd_ne (hn a (List.mem_of_getElem? e))]
    exact h.at_ j a e⟩
theorem nd_addr {as : List Addr} (nd : as.Nodup) {i j : Nat} {a : Addr} (h1 : as[i]? = some a) (h2 : as[j]? = some a) : i = j := by
  have l1 := (List.getElem?_eq_some_iff.mp h1)
  have l2 := (List.getElem?_eq_some_iff.mp h2)
  obtain ⟨q1, e1⟩ := l1
  obtain ⟨q2, e2⟩ := l2
  exact (List.getElem_inj nd).mp (e1.trans e2.symm)
theorem Heads.put {H : Hp} {as : List Addr} {f : Nat → List Nat} {j x : Nat} {a : Addr} (h : Heads H as f) (ha : as[j]? = some a) : Heads (L2.upd H a (.lst ((f j).map natV ++ [natV x]))) as (fun k => if k = j then f j ++ [x] else f k) :=
  ⟨h.nd, fun k c e => by
    by_cases hk : k = j
    · subst hk
      rw [ha] at e
      cases e
      rw [upd_same, if_pos rfl, List.map_append]
      rfl
    · have hne : c ≠ a := fun z => hk (nd_addr h.nd e (z ▸ ha))
      rw [upd_ne hne, if_neg hk]
      exact h.at_ k c e⟩
theorem outs_snoc {ps : List (Nat × Nat)} {i : Nat} {p : Nat × Nat} (h : ps[i]? = some p) (k : Nat) : outs (ps.take (i + 1)) k = if k = p.1 then outs (ps.take i) p.1 ++ [p.2] else outs (ps.take i) k := by
  unfold outs
  rw [List.take_add_one, h, List.filter_append, List.map_append]
  by_cases hk : k = p.1
  · subst hk
    rw [if_pos rfl]
    simp
  · rw [if_neg hk]
    have : p.1 ≠ k := fun z => hk z.symm
    simp [this]
/-! counts of what is not yet found -/
def cntF (fl : List Bool) : Nat := fl.countP fun x => !x
theorem cntF_set : ∀ {fl : List Bool} {j : Nat}, fl[j]? = some false → cntF (fl.set j true) + 1 = cntF fl
  | [], j, h => by simp at h
  | b :: fl, 0, h => by
    have e : b = false := Option.some.inj h
    subst e
    unfold cntF
    simp
  | b :: fl, j + 1, h => by
    have ih := cntF_set (fl := fl) (j := j) h
    unfold cntF at ih ⊢
    rw [List.set_cons_succ, List.countP_cons, List.countP_cons]
    omega
theorem set_get {fl : List Bool} {h j : Nat} : (fl.set h true)[j]? = some true ↔ (j = h ∧ h < fl.length) ∨ fl[j]? = some true := by
  rw [List.getElem?_set]
  by_cases e : h = j
  · subst e
    rw [if_pos rfl]
    by_cases l : h < fl.length
    · rw [if_pos l]
      simp [l]
    · rw [if_neg l]
      have : fl[h]? = none := List.getElem?_eq_none (by omega)
      simp [l, this]
  · rw [if_neg e]
    constructor
    · exact .inr
    · rintro (⟨a, _⟩ | a)
      · exact absurd a.symm e
      · exact a
def isFV : V → Bool
  | .bl false => true
  | _ => false
theorem cntV (fl : List Bool) : (fl.map V.bl).countP isFV = cntF fl := by
  unfold cntF
  rw [List.countP_map]
  congr 1
  funext x
  cases x <;> rfl
theorem mem_outs {ps : List (Nat × Nat)} {x y : Nat} : y ∈ outs ps x ↔ (x, y) ∈ ps := by
  unfold outs
  constructor
  · intro h
    obtain ⟨p, hp, rfl⟩ := List.mem_map.mp h
    have hp := List.mem_filter.mp hp
    have e : p.1 = x := of_decide_eq_true hp.2
    rw [← e]
    exact hp.1
  · intro h
    exact List.mem_map.mpr ⟨(x, y), List.mem_filter.mpr ⟨h, decide_eq_true rfl⟩, rfl⟩
theorem outs_len (ps : List (Nat × Nat)) (x : Nat) : (outs ps x).length ≤ ps.length := by
  unfold outs
  rw [List.length_map]
  exact List.length_filter_le _ _
inductive NPath (ps : List (Nat × Nat)) (s : Nat) : Nat → Prop where
  | base : NPath ps s s
  | step {x y : Nat} (h : NPath ps s x) (e : (x, y) ∈ ps) : NPath ps s y
def arrV (p : Nat × Nat) : List V := [natV p.1, natV p.2]
def spSpread (K : PySem.W.Frag) : Sp := fun vs H Q _ => ∃ (s n : Nat) (a : Addr) (xs : List V) (ps : List (Nat × Nat)), vs = [natV s, .ref a, natV n] ∧ s < n ∧ n ≤ 100 ∧ H a = some (.lst xs) ∧ Rows K H xs (ps.map arrV) ∧ ps.length ≤ 1000 ∧ (∀ p ∈ ps, p.1 < n ∧ p.2 < n) ∧
  ∀ H' o (fl : List Bool), Same H H' → H o = none → H' o = some (.lst (fl.map V.bl)) → fl.length = n → (∀ j, fl[j]? = some true ↔ NPath ps s j) → Q (.ref o) H'
theorem scSpread : FnScope ["start", "arrows", "size", "heads", "tail", "head", "found", "waiting", "node", "_"] ["start", "arrows", "size"] (defScope sSpread) := ⟨rfl, rfl, rfl, by decide +kernel, rfl, by decide +kernel, by decide +kernel⟩
theorem seq_at {σ : L2.St} {H : Hp} {t u : TS} {D : Ends} (h : t { D with nx := u D } σ H) : tSeq t u D σ H := h
theorem gName_seq {i : Nat} {v : V} {σ : L2.St} {H : Hp} {t u : TS} {D : Ends} (h : t { D with nx := u D } (σ.set i (some v)) H) : gName i v σ H (tSeq t u D) := h
theorem ok_spread {f : Addr} {fd : FuncData} {k : Nat} (F : Fun K "_spread" "_spread" sSpread f fd) (mr : mg "range" = none) : FnOk P w K mg base CX0 (k + 1) f fd ["start", "arrows", "size"] (spSpread K) := by
  refine F.ok scSpread (fun vs H Q E h => ?_) (fun cdv A outer s0 H vs Q E hr h => ?_)
  · obtain ⟨s, n, a, xs, ps, rfl, _⟩ := h
    rfl
  · obtain ⟨s, n, a, xs, ps, rfl, hs, n100, ha, hR, p1000, hlt, q⟩ := h
    refine ⟨_, pss_cons (ps_setLc (i := 3) (own := [("_", 9)]) (g := gName 9) (tt := tYes) rfl scSpread.nd rfl rfl (sw_true rfl rfl rfl (by decide +kernel)) (pi_range1 rfl mr (pa_cons (pv 2) pa_nil)) (blkOk_by (N := ["start", "arrows", "size", "heads", "tail", "head", "found", "waiting", "node", "_"]) (sc := defScope sSpread) (by decide +kernel)) (fun _ _ _ _ _ => pg_name (i := 9) scSpread.nd rfl (Or.inl rfl)) (fun _ _ _ _ _ => pts_nil) (fun _ _ _ _ _ => pe_lst pa_nil))
      (pss_cons (ps_for PassesOwn.never rfl (pi_list (pv 1)) (pg_tup rfl (pgs_cons (pg_name (i := 4) scSpread.nd rfl (Or.inl rfl)) (pgs_cons (pg_name (i := 5) scSpread.nd rfl (Or.inl rfl)) pgs_nil)))
        (pss_one (ps_expr (pe_bm PySem.F.plainAttrs_list PySem.F.slot_list_append PySem.F.type_list_append mt_append (pe_ix ix_list (pv 3) (pv 4) (fun _ _ => rfl)) (pa_cons (pv 5) pa_nil)))))
      (pss_cons (ps_setLc (i := 6) (own := [("_", 9)]) (g := gName 9) (tt := tYes) rfl scSpread.nd rfl rfl (sw_true rfl rfl rfl (by decide +kernel)) (pi_range1 rfl mr (pa_cons (pv 2) pa_nil)) (blkOk_by (N := ["start", "arrows", "size", "heads", "tail", "head", "found", "waiting", "node", "_"]) (sc := defScope sSpread) (by decide +kernel)) (fun _ _ _ _ _ => pg_name (i := 9) scSpread.nd rfl (Or.inl rfl)) (fun _ _ _ _ _ => pts_nil) (fun _ _ _ _ _ => pe_bl))
      (pss_cons (ps_asg pe_bl (pg_sub (pv 6) (pv 0) set_list))
      (pss_cons (ps_set (i := 7) scSpread.nd rfl (.inl rfl) (pe_lst (pa_cons (pv 0) pa_nil)))
      (pss_cons (ps_while PassesOwn.never (pt_truth (pv 7) (by intro _; rfl))
        (pss_cons (ps_set (i := 8) scSpread.nd rfl (.inl rfl) (pe_bm0 PySem.F.plainAttrs_list PySem.F.slot_list_pop PySem.F.type_list_pop mt_pop (pv 7)))
        (pss_one (ps_for PassesOwn.never rfl (pi_list (pe_ix ix_list (pv 3) (pv 8) (fun _ _ => rfl))) (pg_name (i := 5) scSpread.nd rfl (.inl rfl))
          (pss_one (ps_if (pt_not (pt_val (pe_ix ix_list (pv 6) (pv 5) (fun _ _ => rfl))))
            (pss_cons (ps_asg pe_bl (pg_sub (pv 6) (pv 5) set_list))
            (pss_one (ps_expr (pe_bm PySem.F.plainAttrs_list PySem.F.slot_list_append PySem.F.type_list_append mt_append (pv 7) (pa_cons (pv 5) pa_nil))))) pss_nil))))))
      (pss_one (ps_ret (pv 6)))))))), ?_⟩
    have lx := hR.len
    rw [List.length_map] at lx
    refine ⟨_, rfl, (n : Int), rfl, by omega, by omega, fun D nD => ?_⟩
    refine lc_range (lo := 0) (n := (n : Int).toNat) (fun i G => ∃ as : List Addr, Same H G ∧ G D = some (.lst (as.map V.ref)) ∧ as.length = i ∧ Heads G as (fun _ => []) ∧ ∀ c ∈ as, H c = none ∧ c ≠ D) ⟨[], same_upd nD, upd_same, rfl, ⟨List.nodup_nil, fun j c e => by simp at e⟩, fun c hc => by cases hc⟩ ?_ ?_
    · rintro i G hi ⟨as, sm, hd, la, hh, hf⟩
      refine ⟨rfl, ?_⟩
      refine yesT ?_
      refine ⟨Nat.zero_le _, fun o no => ?_⟩
      have s2 := same_upd (o := .lst []) no
      have nDo : D ≠ o := ne_of_none hd no
      refine ⟨_, s2 _ _ hd, szlt (by rw [List.length_map]; omega), as ++ [o], same_mut (sm.trans s2) nD, by rw [upd_same, List.map_append]; rfl, by rw [List.length_append, la]; rfl, ⟨?_, fun j c e => ?_⟩, fun c hc => ?_⟩
      · rw [List.nodup_append]
        refine ⟨hh.nd, by simp, fun c hc d hd2 => ?_⟩
        rw [List.mem_singleton.mp hd2]
        obtain ⟨j, hj⟩ := List.mem_iff_getElem?.mp hc
        exact ne_of_none (hh.at_ j c hj) no
      · by_cases hj : j < as.length
        · rw [List.getElem?_append_left hj] at e
          have hc := List.mem_of_getElem? e
          rw [upd_ne (hf c hc).2, s2 _ _ (hh.at_ j c e)]
        · rw [List.getElem?_append_right (by omega)] at e
          have e2 : c = o := by
            have := List.mem_of_getElem? e
            exact List.mem_singleton.mp this
          rw [e2, upd_ne nDo.symm, upd_same]
          rfl
      · rcases List.mem_append.mp hc with h | h
        · exact hf c h
        · rw [List.mem_singleton.mp h]
          exact ⟨sm.free no, nDo.symm⟩
    rintro G ⟨as, sm, hd, la, hh, hf⟩
    have la : as.length = n := by omega
    have hasx : ∀ j, j < n → ∃ c, as[j]? = some c := fun j hj => ⟨_, List.getElem?_eq_getElem (by omega)⟩
    refine ⟨_, rfl, a, rfl, ⟨_, sq (sm _ _ ha)⟩, for_list (K := K) (a := a) (xs := xs) (fun i σ G2 => ∃ z4 z5 : Option V, σ = [some (natV s), some (.ref a), some (natV n), some (.ref D), z4, z5, none, none, none, none] ∧ Same H G2 ∧ G2 D = some (.lst (as.map V.ref)) ∧ Heads G2 as (outs (ps.take i))) ⟨none, none, rfl, sm, hd, hh⟩ (fun i σ G2 _ ⟨_, _, _, e, _⟩ => sq (e _ _ ha)) ?_ ?_⟩
    · rintro i v σ G2 hi ⟨z4, z5, rfl, sm2, hd2, hh2⟩
      obtain ⟨tt, rw_, rfl, hrow, hri⟩ := hR.at hi
      rw [List.getElem?_map] at hri
      obtain ⟨p, hp, rfl⟩ := Option.map_eq_some_iff.mp hri
      obtain ⟨c, hc⟩ := hasx p.1 (hlt p (List.mem_of_getElem? hp)).1
      have hcm := hf c (List.mem_of_getElem? hc)
      have lo := outs_len (ps.take i) p.1
      rw [List.length_take] at lo
      refine ⟨tt, _, rfl, Same.sqt sm2 hrow, rfl, _, _, rfl, _, _, rfl, rfl, ?_⟩
      refine ⟨_, rfl, _, rfl, D, _, (p.1 : Int), .ref c, rfl, rfl, sq hd2, atI_nat (by rw [List.getElem?_map, hc]; rfl), .inl ⟨rfl, _, sq (hh2.at_ _ _ hc)⟩, _, rfl, c, _, _, rfl, rfl, hh2.at_ _ _ hc, szlt (by rw [List.length_map]; omega), ?_⟩
      refine ⟨_, _, rfl, same_mut sm2 hcm.1, by rw [upd_ne hcm.2.symm]; exact hd2, ?_⟩
      rw [show outs (ps.take (i + 1)) = _ from funext (outs_snoc hp)]
      exact hh2.put hc
    rintro σ G2 ⟨z4, z5, rfl, sm2, hd2, hh2⟩
    rw [lx, List.take_length] at hh2
    refine ⟨_, rfl, (n : Int), rfl, by omega, by omega, fun D6 nD6 => ?_⟩
    refine lc_range (lo := 0) (n := (n : Int).toNat) (fun i G => Same G2 G ∧ G D6 = some (.lst ((List.replicate i false).map V.bl))) ⟨same_upd nD6, upd_same⟩ ?_ ?_
    · rintro i G hi ⟨gs, hd6⟩
      refine ⟨rfl, ?_⟩
      refine yesT ?_
      refine ⟨_, hd6, szlt (by rw [List.length_map, List.length_replicate]; omega), same_mut gs nD6, ?_⟩
      rw [upd_same, List.replicate_succ', List.map_append]
      rfl
    rintro G3 ⟨s3, hd6⟩
    rw [show (n : Int).toNat = n by omega] at hd6
    have n6 : H D6 = none := sm2.free nD6
    have ne6 : D ≠ D6 := ne_of_none hd2 nD6
    have nas6 : ∀ c ∈ as, c ≠ D6 := fun c hc => by
      obtain ⟨j, hj⟩ := List.mem_iff_getElem?.mp hc
      exact ne_of_none (hh2.at_ j c hj) nD6
    refine ⟨_, rfl, _, rfl, D6, _, (s : Int), s, rfl, rfl, hd6, by unfold ixN; rw [if_pos (by omega), if_pos (by rw [List.length_map, List.length_replicate]; omega)]; rfl, ?_⟩
    have s4 : Same H _ := same_mut (o := .lst (((List.replicate n false).map V.bl).set s (.bl true))) (sm2.trans s3) n6
    refine ⟨_, rfl, by show 1 ≤ sizeLine; decide, fun W nW => ?_⟩
    have s5 := same_upd (o := .lst [natV s]) nW
    have nW0 : H W = none := s4.free nW
    have eD4 := (upd_ne (H := G3) (o := .lst (((List.replicate n false).map V.bl).set s (.bl true))) ne6).trans (s3 _ _ hd2)
    have hD5 := s5 _ _ eD4
    have hh5 := ((hh2.mono s3).upd (ho := .lst (((List.replicate n false).map V.bl).set s (.bl true))) nas6).mono s5
    have h65 := s5 _ _ (upd_same (H := G3) (a := D6) (o := .lst (((List.replicate n false).map V.bl).set s (.bl true))))
    have hW5 := upd_same (H := upd G3 D6 (.lst (((List.replicate n false).map V.bl).set s (.bl true)))) (a := W) (o := .lst [natV s])
    have sH5 := s4.trans s5
    have nW6 : W ≠ D6 := (ne_of_none upd_same nW).symm
    have nWD : W ≠ D := (ne_of_none eD4 nW).symm
    have nasW : ∀ c ∈ as, c ≠ W := fun c hc => by
      obtain ⟨j, hj⟩ := List.mem_iff_getElem?.mp hc
      exact ne_of_none (((hh2.mono s3).upd (ho := .lst (((List.replicate n false).map V.bl).set s (.bl true))) nas6).at_ j c hj) nW
    generalize upd (upd G3 D6 (.lst (((List.replicate n false).map V.bl).set s (.bl true)))) W (.lst [natV s]) = G5 at *
    rw [← List.map_set] at h65
    have hss : (List.replicate n false).length = n := List.length_replicate
    have c0 : cntF ((List.replicate n false).set s true) + 1 ≤ n := by
      have e1 : (List.replicate n false)[s]? = some false := by rw [List.getElem?_replicate, if_pos hs]
      have e2 := cntF_set e1
      have e3 : cntF (List.replicate n false) ≤ n := by
        unfold cntF
        have := List.countP_le_length (p := fun x : Bool => !x) (l := List.replicate n false)
        rw [hss] at this
        exact this
      omega
    show Ends.nx _ _ _
    dsimp only
    refine seq_at ?_
    show tWhile _ _ _ _ _
    refine while_by (fun σ G => ∃ (z5 z8 : Option V) (fl : List Bool) (ws : List Nat), σ = [some (natV s), some (.ref a), some (natV n), some (.ref D), z4, z5, some (.ref D6), some (.ref W), z8, none] ∧ Same H G ∧ G D = some (.lst (as.map V.ref)) ∧ Heads G as (outs ps) ∧ G D6 = some (.lst (fl.map V.bl)) ∧ G W = some (.lst (ws.map natV)) ∧ fl.length = n ∧ (∀ w ∈ ws, fl[w]? = some true) ∧ fl[s]? = some true ∧ (∀ j, fl[j]? = some true → NPath ps s j) ∧ (∀ x y, (x, y) ∈ ps → fl[x]? = some true → x ∉ ws → fl[y]? = some true) ∧ ws.length + cntF fl ≤ n)
      (fun σ G => match G D6, G W with | some (.lst fl), some (.lst ws) => 2 * fl.countP isFV + ws.length | _, _ => 0) ⟨z5, none, (List.replicate n false).set s true, [s], rfl, sH5, hD5, hh5, h65, hW5, by rw [List.length_set]; exact hss, ?_, ?_, ?_, ?_, by show 1 + _ ≤ n; omega⟩ ?_ ?_
    · intro w hw
      rw [List.mem_singleton.mp hw]
      exact set_get.mpr (.inl ⟨rfl, by rw [hss]; exact hs⟩)
    · exact set_get.mpr (.inl ⟨rfl, by rw [hss]; exact hs⟩)
    · intro j hj
      rcases set_get.mp hj with ⟨e, _⟩ | e
      · rw [e]
        exact .base
      · rw [List.getElem?_replicate] at e
        split at e <;> cases e
    · intro x y _ hx hn
      rcases set_get.mp hx with ⟨e, _⟩ | e
      · exact absurd (List.mem_singleton.mpr e) hn
      · rw [List.getElem?_replicate] at e
        split at e <;> cases e
    · rintro σ G ⟨z5, z8, fl, ws, rfl, smG, hDG, hhG, h6G, hWG, hfl, hws, hst, hsd, hcl, hcn⟩
      have eM : (match G D6, G W with | some (.lst fl), some (.lst ws) => 2 * fl.countP isFV + ws.length | _, _ => 0) = 2 * cntF fl + ws.length := by
        rw [h6G, hWG]
        show 2 * (fl.map V.bl).countP isFV + (ws.map natV).length = _
        rw [cntV, List.length_map]
      rcases List.eq_nil_or_concat ws with e0 | ⟨w0, x, e0⟩
      · subst e0
        refine ⟨_, rfl, false, .inl ⟨_, sq hWG, rfl⟩, ?_⟩
        refine iteF ?_
        refine ⟨_, rfl, q G D6 fl smG n6 h6G hfl fun j => ⟨hsd j, fun hp => ?_⟩⟩
        induction hp with
        | base => exact hst
        | step _ e ih => exact hcl _ _ e ih (by simp)
      · rw [List.concat_eq_append] at e0
        subst e0
        have hxt := hws x (List.mem_append.mpr (.inr (List.mem_singleton.mpr rfl)))
        have hxn : x < n := by
          have := (List.getElem?_eq_some_iff.mp hxt).1
          omega
        obtain ⟨c, hc⟩ := hasx x hxn
        have hcm := List.mem_of_getElem? hc
        refine ⟨_, rfl, true, .inl ⟨_, sq hWG, by simp⟩, ?_⟩
        refine iteT ?_
        refine ⟨_, rfl, .inl ⟨rfl, _, sq hWG⟩, W, _, natV x, rfl, rfl, hWG, by simp, ?_⟩
        have ed : ((w0 ++ [x]).map natV).dropLast = w0.map natV := by simp
        rw [ed]
        have hh1 : Heads (upd G W (.lst (w0.map natV))) as (outs ps) := hhG.upd nasW
        have hD1 : (upd G W (.lst (w0.map natV))) D = some (.lst (as.map V.ref)) := by rw [upd_ne nWD.symm]; exact hDG
        have h61 : (upd G W (.lst (w0.map natV))) D6 = some (.lst (fl.map V.bl)) := by rw [upd_ne nW6.symm]; exact h6G
        have sm1 : Same H (upd G W (.lst (w0.map natV))) := same_mut smG nW0
        refine ⟨_, rfl, _, rfl, D, _, (x : Int), .ref c, rfl, rfl, sq hD1, atI_nat (by rw [List.getElem?_map, hc]; rfl), c, rfl, ⟨_, sq (hh1.at_ _ _ hc)⟩, ?_⟩
        refine for_list (K := K) (a := c) (xs := (outs ps x).map natV) (fun i σ G' => ∃ (z5 : Option V) (fl' : List Bool) (ws' : List Nat), σ = [some (natV s), some (.ref a), some (natV n), some (.ref D), z4, z5, some (.ref D6), some (.ref W), some (natV x), none] ∧ Same H G' ∧ G' D = some (.lst (as.map V.ref)) ∧ Heads G' as (outs ps) ∧ G' D6 = some (.lst (fl'.map V.bl)) ∧ G' W = some (.lst (ws'.map natV)) ∧ fl'.length = n ∧ (∀ w ∈ ws', fl'[w]? = some true) ∧ fl'[s]? = some true ∧ (∀ j, fl'[j]? = some true → NPath ps s j) ∧ (∀ u y, (u, y) ∈ ps → fl'[u]? = some true → u ∉ ws' → (u ≠ x ∨ y ∈ (outs ps x).take i) → fl'[y]? = some true) ∧ ws'.length + cntF fl' ≤ n ∧ 2 * cntF fl' + ws'.length + 1 ≤ 2 * cntF fl + (w0 ++ [x]).length ∧ fl'[x]? = some true)
          ⟨z5, fl, w0, rfl, sm1, hD1, hh1, h61, upd_same, hfl, fun w hw => hws w (List.mem_append.mpr (.inl hw)), hst, hsd, ?_, ?_, ?_, hxt⟩ (fun i σ G' _ ⟨_, _, _, _, _, _, hh', _⟩ => sq (hh'.at_ _ _ hc)) ?_ ?_
        · intro u y e hu hnw hor
          rcases hor with hne | hm
          · refine hcl u y e hu fun hm => ?_
            rcases List.mem_append.mp hm with h | h
            · exact hnw h
            · exact hne (List.mem_singleton.mp h)
          · rw [List.take_zero] at hm
            cases hm
        · rw [List.length_append] at hcn
          have : [x].length = 1 := rfl
          omega
        · rw [List.length_append]
          show _ ≤ 2 * cntF fl + (w0.length + 1)
          omega
        · rintro i v σ G' hi ⟨z5', fl', ws', rfl, sm', hD', hh', h6', hW', hl', hw', hs', hd', hc', hn', hm', hx'⟩
          rw [List.getElem?_map] at hi
          obtain ⟨h, hh0, rfl⟩ := Option.map_eq_some_iff.mp hi
          have hps : (x, h) ∈ ps := mem_outs.mp (List.mem_of_getElem? hh0)
          have hhn := (hlt _ hps).2
          have hhn : h < n := hhn
          obtain ⟨b, hb⟩ : ∃ b, fl'[h]? = some b := ⟨_, List.getElem?_eq_getElem (by omega)⟩
          refine ⟨_, rfl, _, rfl, D6, _, (h : Int), .bl b, rfl, rfl, sq h6', atI_nat (by rw [List.getElem?_map, hb]; rfl), _, rfl, ?_⟩
          cases b with
          | true =>
            refine iteF ?_
            refine ⟨_, fl', ws', rfl, sm', hD', hh', h6', hW', hl', hw', hs', hd', fun u y e hu hnw hor => ?_, hn', hm', hx'⟩
            rcases hor with hne | hm
            · exact hc' u y e hu hnw (.inl hne)
            · rw [List.take_add_one, hh0] at hm
              rcases List.mem_append.mp hm with hm | hm
              · exact hc' u y e hu hnw (.inr hm)
              · have e2 : y = h := by simpa using hm
                rw [e2]
                exact hb
          | false =>
            refine iteT ?_
            refine ⟨_, rfl, _, rfl, D6, _, (h : Int), h, rfl, rfl, h6', by unfold ixN; rw [if_pos (by omega), if_pos (by rw [List.length_map]; omega)]; rfl, ?_⟩
            have hc2 := cntF_set hb
            have hW2 : (upd G' D6 (.lst ((fl'.map V.bl).set h (.bl true)))) W = some (.lst (ws'.map natV)) := by rw [upd_ne nW6]; exact hW'
            refine ⟨_, rfl, .inl ⟨rfl, _, sq hW2⟩, _, rfl, W, _, _, rfl, rfl, hW2, szlt (by rw [List.length_map]; omega), ?_⟩
            refine ⟨_, fl'.set h true, ws' ++ [h], rfl, same_mut (same_mut sm' n6) nW0, by rw [upd_ne nWD.symm, upd_ne ne6]; exact hD', (hh'.upd nas6).upd nasW, by rw [upd_ne nW6.symm, upd_same, List.map_set], by rw [upd_same, List.map_append]; rfl, by rw [List.length_set]; exact hl', fun w hw => ?_, set_get.mpr (.inr hs'), fun j hj => ?_, fun u y e hu hnw hor => ?_, ?_, ?_, set_get.mpr (.inr hx')⟩
            · rcases List.mem_append.mp hw with hw | hw
              · exact set_get.mpr (.inr (hw' w hw))
              · rw [List.mem_singleton.mp hw]
                exact set_get.mpr (.inl ⟨rfl, by omega⟩)
            · rcases set_get.mp hj with ⟨e, _⟩ | e
              · rw [e]
                exact .step (hd' x hx') hps
              · exact hd' j e
            · have hnw1 : u ∉ ws' := fun z => hnw (List.mem_append.mpr (.inl z))
              have hnw2 : u ≠ h := fun z => hnw (List.mem_append.mpr (.inr (List.mem_singleton.mpr z)))
              have hu' : fl'[u]? = some true := by
                rcases set_get.mp hu with ⟨e, _⟩ | e
                · exact absurd e hnw2
                · exact e
              rcases hor with hne | hm
              · exact set_get.mpr (.inr (hc' u y e hu' hnw1 (.inl hne)))
              · rw [List.take_add_one, hh0] at hm
                rcases List.mem_append.mp hm with hm | hm
                · exact set_get.mpr (.inr (hc' u y e hu' hnw1 (.inr hm)))
                · have e2 : y = h := by simpa using hm
                  rw [e2]
                  exact set_get.mpr (.inl ⟨rfl, by omega⟩)
            · rw [List.length_append]
              show ws'.length + 1 + _ ≤ n
              omega
            · rw [List.length_append]
              show 2 * _ + (ws'.length + 1) + 1 ≤ _
              omega
        · rintro σ G' ⟨z5', fl', ws', rfl, sm', hD', hh', h6', hW', hl', hw', hs', hd', hc', hn', hm', hx'⟩
          refine ⟨⟨z5', some (natV x), fl', ws', rfl, sm', hD', hh', h6', hW', hl', hw', hs', hd', fun u y e hu hnw => hc' u y e hu hnw ?_, hn'⟩, ?_⟩
          · by_cases hux : u = x
            · right
              rw [hux] at e
              rw [List.length_map, List.take_length]
              exact mem_outs.mpr e
            · exact .inl hux
          · rw [eM, h6', hW']
            show 2 * (fl'.map V.bl).countP isFV + (ws'.map natV).length < _
            rw [cntV, List.length_map]
            omega
    · rintro σ G Q' Q'' hq ⟨v, hv, k, ht, r⟩
      exact ⟨v, hv, k, ht, hq _ _ r⟩
/-! ### closes, _turned -/
def closesB (c : Ct) (x : Bool) : Bool := match c.mv with
  | none => true
  | some _ => decide (c.whn = makeS) == x
def spCloses (K : PySem.W.Frag) : Sp := fun vs H Q _ => ∃ (t : Addr) (c : Ct) (x : Bool), vs = [.ref t, .bl x] ∧ SqT K H t c.row ∧ Q (.bl (closesB c x)) H
theorem scCloses : FnScope ["contact", "on", "_", "mover", "when"] ["contact", "on"] (defScope sCloses) := ⟨rfl, rfl, rfl, by decide +kernel, rfl, by decide +kernel, by decide +kernel⟩
theorem ok_closes {f : Addr} {fd : FuncData} {k : Nat} (F : Fun K "closes" "closes" sCloses f fd) : FnOk P w K mg base CX0 (k + 1) f fd ["contact", "on"] (spCloses K) := by
  refine F.ok scCloses (fun vs H Q E h => ?_) (fun cdv A outer s H vs Q E hr h => ?_)
  · obtain ⟨t, c, x, rfl, _⟩ := h
    rfl
  · obtain ⟨t, c, x, rfl, ht, q⟩ := h
    refine ⟨_, pss_cons (ps_asg (pv 0) (pg_tup rfl (pgs_cons (pg_name (i := 2) scCloses.nd rfl (Or.inl rfl)) (pgs_cons (pg_name (i := 2) scCloses.nd rfl (Or.inl rfl)) (pgs_cons (pg_name (i := 3) scCloses.nd rfl (Or.inl rfl)) (pgs_cons (pg_name (i := 4) scCloses.nd rfl (Or.inl rfl)) (pgs_cons (pg_name (i := 2) scCloses.nd rfl (Or.inl rfl)) pgs_nil)))))))
      (pss_one (ps_ret (pe_or (pe_cmpR op_isN (pv 3) pe_non (nomark _)) (pe_one (pe_cmpR op_eq (pe_cmpR op_eq (pv 4) pe_str (nomark _)) (pv 1) (nomark _)))))), ?_⟩
    refine ⟨_, rfl, t, _, rfl, ht, rfl, _, _, rfl, _, _, rfl, _, _, rfl, _, _, rfl, _, _, rfl, rfl, ?_⟩
    refine ⟨_, rfl, rfl, _, rfl, ?_⟩
    cases e : c.mv with
    | none =>
      have ev : closesB c x = true := by
        unfold closesB
        rw [e]
      rw [ev] at q
      refine iteT ?_
      exact q
    | some m =>
      have ev : closesB c x = (decide (c.whn = makeS) == x) := by
        unfold closesB
        rw [e]
      rw [ev] at q
      refine iteF ?_
      refine ⟨_, rfl, rfl, _, rfl, rfl, ?_⟩
      have ez : decide (V.bl (decide (V.str c.whn = V.str "make")) = V.bl x) = (decide (c.whn = makeS) == x) := by
        have e1 : decide (V.str c.whn = V.str "make") = decide (c.whn = makeS) := decide_eq_decide.mpr ⟨fun h => V.str.inj h, fun h => congrArg V.str h⟩
        rw [e1]
        generalize decide (c.whn = makeS) = y
        cases x <;> cases y <;> decide
      rw [ez]
      exact q
def spTurned (K : PySem.W.Frag) : Sp := fun vs H Q _ => ∃ (a : Addr) (xs : List V) (ps : List (Nat × Nat)), vs = [.ref a] ∧ H a = some (.lst xs) ∧ Rows K H xs (ps.map arrV) ∧ ps.length ≤ 1000 ∧
  ∀ H' o ys, Same H H' → H o = none → H' o = some (.lst ys) → Rows K H' ys ((ps.map Prod.swap).map arrV) → Q (.ref o) H'
theorem scTurned : FnScope ["arrows", "tail", "head"] ["arrows"] (defScope sTurned) := ⟨rfl, rfl, rfl, by decide +kernel, rfl, by decide +kernel, by decide +kernel⟩
theorem ok_turned {f : Addr} {fd : FuncData} {k : Nat} (F : Fun K "_turned" "_turned" sTurned f fd) : FnOk P w K mg base CX0 (k + 1) f fd ["arrows"] (spTurned K) := by
  refine F.ok scTurned (fun vs H Q E h => ?_) (fun cdv A outer s H vs Q E hr h => ?_)
  · obtain ⟨a, xs, ps, rfl, _⟩ := h
    rfl
  · obtain ⟨a, xs, ps, rfl, ha, hR, p1, q⟩ := h
    have lx := hR.len
    rw [List.length_map] at lx
    refine ⟨_, pss_one (ps_ret (pe_lc (own := [("tail", 1), ("head", 2)]) (g := gTup K 2 (gCons (gName 1) (gCons (gName 2) gNil))) (tt := tYes) rfl scTurned.nd (pi_list (pv 0)) (blkOk_by (N := ["arrows", "tail", "head"]) (sc := defScope sTurned) (by decide +kernel))
      (fun _ _ _ _ _ => pg_tup rfl (pgs_cons (pg_name (i := 1) scTurned.nd rfl (Or.inl rfl)) (pgs_cons (pg_name (i := 2) scTurned.nd rfl (Or.inl rfl)) pgs_nil))) (fun _ _ _ _ _ => pts_nil) (fun _ _ _ _ _ => pe_tup (pa_cons (pv 2) (pa_cons (pv 1) pa_nil))))), ?_⟩
    refine ⟨_, rfl, a, rfl, ⟨_, sq ha⟩, fun D nD => ?_⟩
    refine lc_list (K := K) (a := a) (xs := xs) (fun i G => ∃ ys, Same H G ∧ G D = some (.lst ys) ∧ Rows K G ys (((ps.take i).map Prod.swap).map arrV)) ⟨[], same_upd nD, upd_same, True.intro⟩ (fun i G _ ⟨_, h, _⟩ => sq (h _ _ ha)) ?_ ?_
    · rintro i v G hi ⟨ys, sm, hd, hY⟩
      obtain ⟨tt, rw_, rfl, hrow, hri⟩ := hR.at hi
      rw [List.getElem?_map] at hri
      obtain ⟨p, hp, rfl⟩ := Option.map_eq_some_iff.mp hri
      have ly := hY.len
      rw [List.length_map, List.length_map, List.length_take] at ly
      refine ⟨tt, _, rfl, Same.sqt sm hrow, rfl, _, _, rfl, _, _, rfl, rfl, rfl, ?_⟩
      refine yesT ?_
      refine ⟨_, rfl, _, rfl, by show 2 ≤ sizeLine; decide, fun t nt => ?_⟩
      have s2 := same_upd (o := .tup [natV p.2, natV p.1]) nt
      have hd2 := s2 _ _ hd
      have ne : D ≠ t := ne_of_none hd nt
      refine ⟨_, hd2, szlt (by omega), ys ++ [.ref t], same_mut (sm.trans s2) nD, upd_same, ?_⟩
      rw [List.take_add_one, hp, List.map_append, List.map_append]
      refine Rows.snoc ?_ (Rows.updl hd2 (hY.mono s2))
      exact .inl (.inl (by rw [upd_ne ne.symm]; exact upd_same))
    · rintro G ⟨ys, sm, hd, hY⟩
      rw [lx, List.take_length] at hY
      exact q G D ys sm nD hd hY
/-! ### name = {k: v for ..}, the name a local -/
section
variable {X : Cx}
theorem ps_setDc {i : Nat} {y : Str} {py : Pos} {kx vx tg iter : Expr} {ifs : List Expr} {scope : Scope} {own : List (Str × Nat)} {pos spos : Pos} {wi : TI} {g : TG} {tt : TT} {tk tv : TE} (hc : X.calm = true) (hN : X.N.Nodup) (hy : X.N[i]? = some y) (hyl : X.env.scope.names.lookup y = some .local)
    (hsw : swapsWith (.DictComp kx vx [⟨tg, iter, ifs, 0⟩] scope pos) (some (.Name y py)) spos.line X.env = pure true) (hi : PI X tg iter wi) (ok : BlkOk X.N X.env.scope scope own)
    (hg : ∀ (s : Shared) (H : Hp) (C : Addr) (cl : List (Str × Addr)) (fp : List Addr), PG (X.blk s H scope (compEnvC scope cl C X.env) fp) tg g) (ht : ∀ (s : Shared) (H : Hp) (C : Addr) (cl : List (Str × Addr)) (fp : List Addr), PTs (X.blk s H scope (compEnvC scope cl C X.env) fp) ifs tt)
    (hk : ∀ (s : Shared) (H : Hp) (C : Addr) (cl : List (Str × Addr)) (fp : List Addr), PE (X.blk s H scope (compEnvC scope cl C X.env) fp) kx tk)
    (he : ∀ (s : Shared) (H : Hp) (C : Addr) (cl : List (Str × Addr)) (fp : List Addr), PE (X.blk s H scope (compEnvC scope cl C X.env) fp) vx tv) (hs : ∀ x, foldedSetIterable iter X.env x = pure x := by intro _; rfl) :
    PS X (.Assign [.Name y py] (.DictComp kx vx [⟨tg, iter, ifs, 0⟩] scope pos) spos) (tAsg (tDc wi g tt tk tv (own.map (·.2))) (gName i)) := by
  refine ⟨fun pins s σ H D I h => ?_⟩
  rw [exec_Assign_Name_used _ _ _ _ hsw]
  refine wpAny_bind (wpAny_standAt (wpAny_bind ?_))
  show wpAny _ X.A (do let _ ← comprehension (.DictComp kx vx [⟨tg, iter, ifs, 0⟩] scope pos) scope X.env (firstIterPos [⟨tg, iter, ifs, 0⟩] pos) newDict false (eval iter X.env) (some (assign (.Name y py) X.env))) _ _ s
  have h : tDc wi g tt tk tv (own.map (·.2)) σ H (fun x H1 => gName i x σ H1 D.nx) := h
  refine wpAny_bind (thn (dc_core (Qf := fun _ s' => SP X pins D .next s') hc hN I hi ok hg ht hk he hs h fun L C s' m H' I' q hn f => ?_) fun _ s' hq => wpAny_pure (wpAny_pure hq))
  show wpAny _ _ (assign (.Name y py) X.env (.ref L)) _ _ _
  refine wpAny_assign_Name (store_ok2 (v := V.ref L) I' hN hy (.inl hyl) rfl (fun s2 I2 ⟨a, sb, ha⟩ => ?_) (.inr hyl))
  obtain ⟨f0, f1, f2, f3, f4, f5⟩ := f
  have haC : C ≠ a := by
    rcases ha with z | z
    · rw [z]; exact f1
    · exact fun e => f4 y a z e.symm
  refine ⟨m, hn.sameBut sb haC, fun h3 sb3 => ?_⟩
  exact ⟨_, H', I2.turned (t' := s2.toks) (fun b o hb e => (sb3.2 b hb).trans e) f0 f1 f3 f4 f5, q⟩
theorem sw_trueD {kx vx : Expr} {gs : List Comprehension} {scope : Scope} {pos py : Pos} {y : Str} {l : Nat} {env : Env} (hk : env.scope.kind = .function) (hy : env.scope.names.lookup y = some .local) (hl : (py.line == pos.line) = true)
    (ha : (scope.names.any fun (n, k) => n == y && (k == .local || k == .cell)) = false) : swapsWith (.DictComp kx vx gs scope pos) (some (.Name y py)) l env = pure true := by
  have ky : env.kindOf y = some .local := hy
  have hb : env.blockKind = .function := by unfold Env.blockKind; rw [hk]; rfl
  unfold swapsWith
  simp only [hb, ky, ha, Expr.pos, hl]
  rfl
/-- d.get(y), y may be None (d's keys ints and texts) -/
def DGetN (H : Hp) (a : Addr) (y r : V) : Prop := (∃ o, DGet H a y o ∧ r = o.getD .non) ∨ ∃ kvs, y = .non ∧ Rd H a (.dK kvs) ∧ r = .non
def tDGetN (td ty : TE) : TE := fun σ H Q => td σ H fun x H1 => ∃ a, x = .ref a ∧ IsD H1 a ∧ ty σ H1 fun y H2 => ∃ r, DGetN H2 a y r ∧ Q r H2
theorem d_getN {pins : List (Addr × Obj)} {σ : L2.St} {H : Hp} {s : Shared} {A : Around} {E : Value → Shared → Prop} {a : Addr} {kvs : List (Key × V)} {Q : Value → Shared → Prop} (I : Inv X pins σ H s) (e : Rd H a (.dK kvs)) (h : ∀ s', Inv X pins σ H s' → Q .none s') :
    wpAny (model X.prog X.w) A (call (.builtin "dict.get") [.ref a, .none]) Q E s := by
  obtain ⟨z, hd, vs, rel, dd⟩ := dk_rd I.hok e
  obtain ⟨f, hm, hf⟩ := none_map dd
  refine call_meetsIn PySem.F.slot_dict_get dd.typeIs PySem.F.entry_dict_get (PySem.F.args_dict_get_2 _ _) (meets_dict_get (noneKind X.prog X.w) a (show (noneKind X.prog X.w).is none .none = true from rfl) hd) ⟨_, hm, ?_⟩
  rw [hf]
  exact h _ (I.tok _)
theorem pe_dgetN {o e : Expr} {apos cpos : Pos} {td ty : TE} (hu : X.A.units + 1 < cLine) (ho : PE X o td) (he : PE X e ty) (m : M1 X o "get" apos e cpos) : PE X (.Call (.Attribute o "get" apos) [e] [] cpos) (tDGetN td ty) := by
  refine ⟨fun pins s σ H Q I h => ?_⟩
  refine wpAny_Call_method m.base m.few m.line PySem.F.plainAttrs_dict PySem.F.slot_dict_get PySem.F.type_dict_get (thn (ho.run pins s σ H _ I h) fun u s1 ⟨x, H1, I1, rx, a, ex, d, q1⟩ => ?_)
  subst ex
  obtain rfl : u = Value.ref a := rx
  obtain ⟨t1, t2, _⟩ := isD_at I1 d
  refine ⟨t1, t2, ?_⟩
  rw [m.trees]
  refine Calls.callWith_builtin rfl (Calls.evalArgs_plain (Calls.spliced_cons (thn (he.run pins s1 σ H1 _ I1 q1) fun iv s2 ⟨y, H2, I2, ry, q2⟩ => Calls.spliced_nil ?_)))
  obtain ⟨rr, q2, q3⟩ := q2
  rcases q2 with ⟨ov, g, rfl⟩ | ⟨kvs, ey, g, rfl⟩
  · exact d_get1 hu I2 g ry fun w' s3 I3 rw' => ⟨_, H2, I3, rw', q3⟩
  · subst ey
    obtain rfl : iv = Value.none := ry
    exact d_getN I2 g fun s3 I3 => ⟨.non, H2, I3, rfl, q3⟩
end
/-! ### Net.__init__ -/
theorem dc_it {J : It} {n : Nat} {G : Hp → Prop} {Y : Nat → Hp → V → Hp → Prop} (w : Walk J n G Y) {g : TG} {tt : TT} {tk tv : TE} {vs : List Nat} {σ : L2.St} {H1 : Hp} {D : Addr} {Qd : Hp → Prop} (Pv : Nat → Hp → Prop) (h0 : Pv 0 (upd H1 D (.dK []))) (hG : ∀ i H, i ≤ n → Pv i H → G H)
    (hs : ∀ i x H H', i < n → Pv i H → Y i H x H' → g x (wipe σ vs) H' fun σ2 H2 => wipe σ2 vs = wipe σ vs ∧ tt σ2 H2 fun b H3 =>
      if b = true then tk σ2 H3 fun y H4 => tv σ2 H4 fun z H5 => ∃ kvs k, y = kV k ∧ H5 D = some (.dK kvs) ∧ kvs.length < sizeLine ∧ Pv (i + 1) (upd H5 D (.dK (putK kvs k z))) else Pv (i + 1) H3) (hd : ∀ H, Pv n H → Qd H) :
    ∃ W : Nat → Nat → Hp → Prop, (∃ m, W 0 m (upd H1 D (.dK []))) ∧ ∀ i m H, W i m H →
      (J.stop i H ∧ Qd H) ∨ (J.go i H ∧ ∃ Nx : Hp → Prop, (∀ H', Nx H' → ∃ m', m' < m ∧ W (i + 1) m' H') ∧ ∀ x H', J.yld i H x H' → g x (wipe σ vs) H' fun σ2 H2 => wipe σ2 vs = wipe σ vs ∧ tt σ2 H2 fun b H3 =>
        if b = true then tk σ2 H3 fun y H4 => tv σ2 H4 fun z H5 => ∃ kvs k, y = kV k ∧ H5 D = some (.dK kvs) ∧ kvs.length < sizeLine ∧ Nx (upd H5 D (.dK (putK kvs k z))) else Nx H3) := by
  refine ⟨fun i m H => m = n - i ∧ i ≤ n ∧ Pv i H, ⟨n, by simp, Nat.zero_le _, h0⟩, ?_⟩
  rintro i m H ⟨rfl, hi, p⟩
  have q := hG i H hi p
  by_cases hlt : i < n
  · refine .inr ⟨w.goes i H hlt q, Pv (i + 1), fun H' p' => ⟨n - (i + 1), by omega, rfl, hlt, p'⟩, fun x H' y => hs i x H H' hlt p (w.yields i H x H' hlt q y)⟩
  · have e : i = n := by omega
    subst e
    exact .inl ⟨w.stops H q, hd H p⟩
/-- a dict that tells the places of the names -/
def PosD (kvs : List (Key × V)) (zs : List Str) : Prop := ∀ z : Str, valV kvs (.inr z) = if z ∈ zs then some (natV (posS zs z)) else none
theorem posS_at {zs : List Str} (nd : zs.Nodup) {i : Nat} {z : Str} (h : zs[i]? = some z) : posS zs z = i := by
  have hm : z ∈ zs := List.mem_of_getElem? h
  obtain ⟨h1, h2⟩ := posS_ok hm
  have l1 := List.getElem?_eq_some_iff.mp h1
  have l2 := List.getElem?_eq_some_iff.mp h
  obtain ⟨q1, e1⟩ := l1
  obtain ⟨q2, e2⟩ := l2
  exact (List.getElem_inj nd).mp (e1.trans e2.symm)
theorem posS_lt {zs : List Str} {z : Str} (h : z ∈ zs) : posS zs z < zs.length := (List.getElem?_eq_some_iff.mp (posS_ok h).1).1
/-- after i turns of {name: number for number, name in enumerate(..)} -/
def PosI (kvs : List (Key × V)) (zs : List Str) (i : Nat) : Prop := kvs.length ≤ i ∧ ∀ z : Str, valV kvs (.inr z) = if z ∈ zs.take i then some (natV (posS zs z)) else none
theorem PosI.nil {zs : List Str} : PosI [] zs 0 := ⟨Nat.le_refl _, fun z => by rw [List.take_zero, if_neg (by simp)]; rfl⟩
theorem PosI.put {kvs : List (Key × V)} {zs : List Str} {i : Nat} {z : Str} (nd : zs.Nodup) (h : PosI kvs zs i) (hz : zs[i]? = some z) : PosI (putK kvs (.inr z) (natV i)) zs (i + 1) := by
  refine ⟨Nat.le_trans (length_putK _ _ _) (Nat.succ_le_succ h.1), fun y => ?_⟩
  rw [valV_put, h.2 y, List.take_add_one, hz]
  by_cases e : y = z
  · subst e
    rw [if_pos rfl, if_pos (by simp), posS_at nd hz]
  · have e1 : ¬ (Sum.inr y : Key) = .inr z := fun q => e (Sum.inr.inj q)
    rw [if_neg e1]
    have e2 : (y ∈ zs.take i ++ (some z).toList) ↔ y ∈ zs.take i := by simp [e]
    by_cases e3 : y ∈ zs.take i
    · rw [if_pos e3, if_pos (e2.mpr e3)]
    · rw [if_neg e3, if_neg (fun q => e3 (e2.mp q))]
theorem PosI.all {kvs : List (Key × V)} {zs : List Str} (h : PosI kvs zs zs.length) : PosD kvs zs := fun z => by
  rw [h.2 z, List.take_length]
def pairN (zs : List Str) (r : Sp3) : Nat × Nat := (posS zs r.one, posS zs r.oth)
theorem sqt_updl {K : PySem.W.Frag} {H : Hp} {o a : Addr} {l0 xs : List V} {ho : HO} (h : H o = some (.lst l0)) (q : SqT K H a xs) : SqT K (L2.upd H o ho) a xs := by
  rcases q with (q | ⟨u, q⟩) | q
  · exact .inl (.inl (by rw [upd_ne (ne_of q h (by intro z; cases z))]; exact q))
  · exact .inl (.inr ⟨u, by rw [upd_ne (ne_of q h (by intro z; cases z))]; exact q⟩)
  · exact .inr q
def mvI (zs : List Str) : Option Str → V
  | none => .non
  | some m => natV (posS zs m)
/-- a link: the contact, its mover's place, its ends, both ways -/
def linkV (b : Bd) (t : Addr) (c : Ct) : List V := [.ref t, mvI b.movers c.mv, natV (posS b.nodes c.one), natV (posS b.nodes c.oth), .bl (decide (c.way = bothS))]
def Links (K : PySem.W.Frag) (H : Hp) (b : Bd) : List V → List Ct → Prop
  | [], [] => True
  | v :: xs, c :: cs => (∃ u t, v = .ref u ∧ SqT K H u (linkV b t c) ∧ SqT K H t c.row) ∧ Links K H b xs cs
  | _, _ => False
theorem Links.mono {H H' : Hp} {b : Bd} (s : Same H H') : ∀ {xs : List V} {cs : List Ct}, Links K H b xs cs → Links K H' b xs cs
  | [], [], _ => True.intro
  | _ :: _, _ :: _, ⟨⟨u, t, e, h1, h2⟩, r⟩ => ⟨⟨u, t, e, Same.sqt s h1, Same.sqt s h2⟩, r.mono s⟩
theorem Links.len {H : Hp} {b : Bd} : ∀ {xs : List V} {cs : List Ct}, Links K H b xs cs → xs.length = cs.length
  | [], [], _ => rfl
  | _ :: _, _ :: _, ⟨_, r⟩ => congrArg (· + 1) r.len
theorem Links.snoc {H : Hp} {b : Bd} {u t : Addr} {c : Ct} (h1 : SqT K H u (linkV b t c)) (h2 : SqT K H t c.row) : ∀ {xs : List V} {cs : List Ct}, Links K H b xs cs → Links K H b (xs ++ [.ref u]) (cs ++ [c])
  | [], [], _ => ⟨⟨u, t, rfl, h1, h2⟩, True.intro⟩
  | _ :: _, _ :: _, ⟨e, r⟩ => ⟨e, r.snoc h1 h2⟩
theorem Links.at {H : Hp} {b : Bd} : ∀ {xs : List V} {cs : List Ct} {i : Nat} {v : V}, Links K H b xs cs → xs[i]? = some v → ∃ u t c, v = .ref u ∧ SqT K H u (linkV b t c) ∧ SqT K H t c.row ∧ cs[i]? = some c
  | [], [], _, _, _, h => by simp at h
  | _ :: _, c :: _, 0, _, ⟨⟨u, t, e, h1, h2⟩, _⟩, hi => ⟨u, t, c, by rw [← Option.some.inj hi]; exact e, h1, h2, rfl⟩
  | _ :: _, _ :: _, i + 1, _, ⟨_, r⟩, hi => Links.at (i := i) r hi
theorem Links.upd {H : Hp} {b : Bd} {o : Addr} {ho : HO} {xs0 : List V} (h0 : H o = some (.lst xs0)) : ∀ {xs : List V} {cs : List Ct}, Links K H b xs cs → Links K (L2.upd H o ho) b xs cs
  | [], [], _ => True.intro
  | _ :: _, _ :: _, ⟨⟨u, t, e, h1, h2⟩, r⟩ => ⟨⟨u, t, e, sqt_updl h0 h1, sqt_updl h0 h2⟩, r.upd h0⟩
structure NTxt (K : PySem.W.Frag) (N : Addr) : Prop where
  cl : Cls K N
  n1 : NoAttr K N "_size"
  n2 : NoAttr K N "_coils"
  n3 : NoAttr K N "_bulbs"
  n4 : NoAttr K N "_links"
def netNames : List Str := ["_size", "_coils", "_bulbs", "_links"]
structure NetFs (K : PySem.W.Frag) (H : Hp) (fs : List (Str × V)) (b : Bd) (ca ba la : Addr) (xc xb xl : List V) : Prop where
  l1 : fs.lookup ("_size" : Str) = some (natV b.nodes.length)
  l2 : fs.lookup ("_coils" : Str) = some (.ref ca)
  l3 : fs.lookup ("_bulbs" : Str) = some (.ref ba)
  l4 : fs.lookup ("_links" : Str) = some (.ref la)
  h2 : H ca = some (.lst xc)
  h3 : H ba = some (.lst xb)
  h4 : H la = some (.lst xl)
  r2 : Rows K H xc ((b.relays.map (pairN b.nodes)).map arrV)
  r3 : Rows K H xb ((b.lamps.map (pairN b.nodes)).map arrV)
  r4 : Links K H b xl b.contacts
  only : ∀ m, m ∉ netNames → fs.lookup m = none
def NetAt (K : PySem.W.Frag) (N : Addr) (H : Hp) (p : Addr) (b : Bd) : Prop := ∃ (dx : Addr) (fs : List (Str × V)) (ca ba la : Addr) (xc xb xl : List V), H p = some (.ins N dx fs) ∧ NetFs K H fs b ca ba la xc xb xl
theorem NetAt.mono {N : Addr} {H H' : Hp} {p : Addr} {b : Bd} (s : Same H H') : NetAt K N H p b → NetAt K N H' p b
  | ⟨dx, fs, ca, ba, la, xc, xb, xl, hp, f⟩ => ⟨dx, fs, ca, ba, la, xc, xb, xl, s _ _ hp, f.l1, f.l2, f.l3, f.l4, s _ _ f.h2, s _ _ f.h3, s _ _ f.h4, f.r2.mono s, f.r3.mono s, f.r4.mono s, f.only⟩
def spNetI (K : PySem.W.Frag) (C N : Addr) : Sp := fun vs H Q _ => ∃ (p dx pb : Addr) (H0 : Hp) (b : Bd), vs = [.ref p, .ref pb] ∧ H p = some (.ins N dx []) ∧ H0 p = none ∧ Same H0 H ∧ BoardAt K C H0 pb b ∧ b.Ok ∧ Few b ∧ ∀ H', Same H0 H' → NetAt K N H' p b → Q .non H'
theorem scNetI : FnScope ["self", "board", "nodes", "movers", "_", "one", "other", "contact", "mover", "way", "number", "name"] ["self", "board"] (defScope sNetInit) := ⟨rfl, rfl, rfl, by decide +kernel, rfl, by decide +kernel, by decide +kernel⟩
theorem scMovers : FnScope ["self"] ["self"] (defScope sBoardMovers) := ⟨rfl, rfl, rfl, by decide +kernel, rfl, by decide +kernel, by decide +kernel⟩
def spMovers (K : PySem.W.Frag) (C : Addr) : Sp := fun vs H Q _ => ∃ (p : Addr) (b : Bd), vs = [.ref p] ∧ BoardAt K C H p b ∧ ∀ t, SqT K H t (b.movers.map V.str) → Q (.ref t) H
theorem ok_movers {f C sp sg : Addr} {mc : Value} {fd : FuncData} {k : Nat} (F : Fun K "movers" "Board.movers" sBoardMovers f fd) (T : BTxt K mg C mc sp sg) : FnOk P w K mg base CX0 (k + 1) f fd ["self"] (spMovers K C) := by
  refine F.ok scMovers (fun vs H Q E h => ?_) (fun cdv A outer s H vs Q E hr h => ?_)
  · obtain ⟨p, b, rfl, _⟩ := h
    rfl
  · obtain ⟨p, b, rfl, ⟨dx, fs, tn, ts, tr, tl, tc, tm, yr, yl, yc, hp, f, lm, hm, _⟩, q⟩ := h
    refine ⟨_, pss_one (ps_ret (pe_fld (pv 0) rfl)), ?_⟩
    exact ⟨_, rfl, p, C, dx, _, _, rfl, hp, T.cl, T.nM, lm, q tm hm⟩
/-- the dict of the places, by enumerate over a tuple of names -/
theorem pos_loop {K : PySem.W.Frag} {H1 : Hp} {a D : Addr} {zs : List Str} {vs : List Nat} {σ : L2.St} {Qd : Hp → Prop} {i0 i1 : Nat} (nd : zs.Nodup) (hl : zs.length ≤ 1000) (ha : SqT K H1 a (zs.map V.str)) (nD : H1 D = none)
    (hw : ∀ x y : V, wipe (((wipe σ vs).set i0 (some x)).set i1 (some y)) vs = wipe σ vs) (hg0 : ∀ x y : V, (((wipe σ vs).set i0 (some x)).set i1 (some y))[i0]? = some (some x)) (hg1 : ∀ x y : V, (((wipe σ vs).set i0 (some x)).set i1 (some y))[i1]? = some (some y))
    (hd : ∀ H2 kvs, Same H1 H2 → H2 D = some (.dK kvs) → PosD kvs zs → Qd H2) :
    ∃ W : Nat → Nat → Hp → Prop, (∃ m, W 0 m (upd H1 D (.dK []))) ∧ ∀ i m H, W i m H →
      ((ItU K a).stop i H ∧ Qd H) ∨ ((ItU K a).go i H ∧ ∃ Nx : Hp → Prop, (∀ H', Nx H' → ∃ m', m' < m ∧ W (i + 1) m' H') ∧ ∀ x H', (ItU K a).yld i H x H' → gTup K 2 (gCons (gName i0) (gCons (gName i1) gNil)) x (wipe σ vs) H' fun σ2 H2 => wipe σ2 vs = wipe σ vs ∧ tYes σ2 H2 fun b H3 =>
        if b = true then tVar i1 σ2 H3 fun y H4 => tVar i0 σ2 H4 fun z H5 => ∃ kvs k, y = kV k ∧ H5 D = some (.dK kvs) ∧ kvs.length < sizeLine ∧ Nx (upd H5 D (.dK (putK kvs k z))) else Nx H3) := by
  refine dc_it walk_enumT (fun i G => ∃ kvs, Same H1 G ∧ G D = some (.dK kvs) ∧ PosI kvs zs i) ⟨[], same_upd nD, upd_same, .nil⟩ (fun i G _ ⟨_, sm, _⟩ => Same.sqt sm ha) ?_ ?_
  · rintro i v G G2 hi ⟨kvs, sm, hd2, hI⟩ ⟨t, x, y, rfl, nt, rfl, hx, hy⟩
    cases hx
    rw [List.length_map] at hi
    have hy : (zs.map V.str)[i]? = some y := hy
    rw [List.getElem?_map, List.getElem?_eq_getElem hi] at hy
    have ey : y = .str zs[i] := (Option.some.inj hy).symm
    subst ey
    have s2 := same_upd (o := .tup [.int (i : Nat), .str zs[i]]) nt
    refine ⟨t, _, rfl, st upd_same, rfl, _, _, rfl, _, _, rfl, rfl, hw _ _, ?_⟩
    refine yesT ?_
    refine ⟨_, hg1 _ _, _, hg0 _ _, kvs, .inr zs[i], rfl, s2 _ _ hd2, szlt (by have := hI.1; omega), _, same_mut (sm.trans s2) nD, upd_same, hI.put nd (List.getElem?_eq_getElem hi)⟩
  · rintro G ⟨kvs, sm, hd2, hI⟩
    rw [List.length_map] at hI
    exact hd G kvs sm hd2 hI.all
theorem net_pairs {K : PySem.W.Frag} {H1 : Hp} {a D d : Addr} {kvs : List (Key × V)} {zs : List Str} {xs : List V} {rs : List Sp3} {vs : List Nat} {σ : L2.St} {Qd : Hp → Prop} {i0 i1 i2 id : Nat} (hd0 : H1 d = some (.dK kvs)) (hk : PosD kvs zs) (hR : Rows K H1 xs (rs.map Sp3.row)) (hin : ∀ r ∈ rs, r.one ∈ zs ∧ r.oth ∈ zs) (hl : rs.length ≤ 1000) (ha : SqT K H1 a xs) (nD : H1 D = none)
    (hw : ∀ x y z : V, wipe ((((wipe σ vs).set i0 (some x)).set i1 (some y)).set i2 (some z)) vs = wipe σ vs) (g1 : ∀ x y z : V, ((((wipe σ vs).set i0 (some x)).set i1 (some y)).set i2 (some z))[i1]? = some (some y)) (g2 : ∀ x y z : V, ((((wipe σ vs).set i0 (some x)).set i1 (some y)).set i2 (some z))[i2]? = some (some z))
    (gd : ∀ x y z : V, ((((wipe σ vs).set i0 (some x)).set i1 (some y)).set i2 (some z))[id]? = some (some (.ref d)))
    (hq : ∀ H2 ys, Same H1 H2 → H2 D = some (.lst ys) → Rows K H2 ys ((rs.map (pairN zs)).map arrV) → Qd H2) :
    ∃ W : Nat → Nat → Hp → Prop, (∃ m, W 0 m (upd H1 D (.lst []))) ∧ ∀ i m H, W i m H →
      ((Itt K a).stop i H ∧ Qd H) ∨ ((Itt K a).go i H ∧ ∃ Nx : Hp → Prop, (∀ H', Nx H' → ∃ m', m' < m ∧ W (i + 1) m' H') ∧ ∀ x H', (Itt K a).yld i H x H' → gTup K 3 (gCons (gName i0) (gCons (gName i1) (gCons (gName i2) gNil))) x (wipe σ vs) H' fun σ2 H2 => wipe σ2 vs = wipe σ vs ∧ tYes σ2 H2 fun b H3 =>
        if b = true then tTup (tCons (tDGet (tVar id) (tVar i1)) (tCons (tDGet (tVar id) (tVar i2)) tNil)) σ2 H3 fun y H4 => ∃ acc, H4 D = some (.lst acc) ∧ acc.length < sizeLine ∧ Nx (upd H4 D (.lst (acc ++ [y]))) else Nx H3) := by
  have lx := hR.len
  rw [List.length_map] at lx
  refine lc_tup (K := K) (a := a) (xs := xs) (fun i G => ∃ ys, Same H1 G ∧ G D = some (.lst ys) ∧ Rows K G ys (((rs.take i).map (pairN zs)).map arrV)) ⟨[], same_upd nD, upd_same, True.intro⟩ (fun i G _ ⟨_, sm, _⟩ => Same.sqt sm ha) ?_ ?_
  · rintro i v G hi ⟨ys, sm, hd, hY⟩
    obtain ⟨tt, rw_, rfl, hrow, hri⟩ := hR.at hi
    rw [List.getElem?_map] at hri
    obtain ⟨r, hr, rfl⟩ := Option.map_eq_some_iff.mp hri
    obtain ⟨m1, m2⟩ := hin r (List.mem_of_getElem? hr)
    have ly := hY.len
    rw [List.length_map, List.length_map, List.length_take] at ly
    refine ⟨tt, _, rfl, Same.sqt sm hrow, rfl, _, _, rfl, _, _, rfl, _, _, rfl, rfl, hw _ _ _, ?_⟩
    refine yesT ?_
    have e1 : valV kvs (.inr r.one) = some (natV (posS zs r.one)) := by rw [hk, if_pos m1]
    have e2 : valV kvs (.inr r.oth) = some (natV (posS zs r.oth)) := by rw [hk, if_pos m2]
    refine ⟨_, gd _ _ _, _, g1 _ _ _, d, _, rfl, e1 ▸ DGet.k (k := .inr r.one) (sm _ _ hd0), _, gd _ _ _, _, g2 _ _ _, d, _, rfl, e2 ▸ DGet.k (k := .inr r.oth) (sm _ _ hd0), by show 2 ≤ sizeLine; decide, fun t nt => ?_⟩
    have s2 := same_upd (o := .tup [natV (posS zs r.one), natV (posS zs r.oth)]) nt
    have hd2 := s2 _ _ hd
    have ne : D ≠ t := ne_of_none hd nt
    refine ⟨_, hd2, szlt (by omega), ys ++ [.ref t], same_mut (sm.trans s2) nD, upd_same, ?_⟩
    rw [List.take_add_one, hr, List.map_append, List.map_append]
    refine Rows.snoc ?_ (Rows.updl hd2 (hY.mono s2))
    exact .inl (.inl (by rw [upd_ne ne.symm]; exact upd_same))
  · rintro G ⟨ys, sm, hd, hY⟩
    rw [lx, List.take_length] at hY
    exact hq G ys sm hd hY
theorem spanB_in {zs : List Str} {r : Sp3} (h : spanB zs r = true) : r.one ∈ zs ∧ r.oth ∈ zs := by
  unfold spanB at h
  simp only [Bool.and_eq_true, decide_eq_true_eq] at h
  exact ⟨h.2.1, h.2.2.1⟩
theorem ctB_in {zs ms : List Str} {c : Ct} (h : ctB zs ms c = true) : c.one ∈ zs ∧ c.oth ∈ zs := by
  unfold ctB at h
  simp only [Bool.and_eq_true, decide_eq_true_eq] at h
  exact ⟨h.1, h.2.1⟩
theorem getN {H : Hp} {a : Addr} {kvs : List (Key × V)} {zs : List Str} {mv : Option Str} (h : H a = some (.dK kvs)) (hk : PosD kvs zs) (hm : ∀ m, mv = some m → m ∈ zs) : DGetN H a (mvV mv) (mvI zs mv) := by
  cases mv with
  | none => exact .inr ⟨kvs, rfl, .inl h, rfl⟩
  | some m =>
    refine .inl ⟨_, DGet.k (k := .inr m) h, ?_⟩
    rw [hk, if_pos (hm m rfl)]
    rfl
theorem nfs_at (v1 v2 v3 v4 : V) (m : Str) : (putF "_links" v4 (putF "_bulbs" v3 (putF "_coils" v2 (putF "_size" v1 [])))).lookup m = if m = "_links" then some v4 else if m = "_bulbs" then some v3 else if m = "_coils" then some v2 else if m = "_size" then some v1 else none := by
  rw [lookup_putF, lookup_putF, lookup_putF, lookup_putF]
  rfl
theorem nfs_len (v1 v2 v3 : V) : (putF "_bulbs" v3 (putF "_coils" v2 (putF "_size" v1 []))).length ≤ 3 ∧ (putF "_coils" v2 (putF "_size" v1 [])).length ≤ 2 ∧ (putF "_size" v1 []).length ≤ 1 := by
  have h1 : (putF "_size" v1 []).length ≤ 0 + 1 := putF_len _ _ []
  have h2 := putF_len "_coils" v2 (putF "_size" v1 [])
  have h3 := putF_len "_bulbs" v3 (putF "_coils" v2 (putF "_size" v1 []))
  omega
theorem ok_netI {f fMv C N sp sg pMv : Addr} {mc : Value} {fd fdMv : FuncData} {k : Nat} (F : Fun K "__init__" "Net.__init__" sNetInit f fd) (T : BTxt K mg C mc sp sg) (TN : NTxt K N)
    (FMv : Fun K "movers" "Board.movers" sBoardMovers fMv fdMv) (bMv : Binds K fdMv ["self"] []) (PMv : PropOf K C "movers" pMv fMv) : FnOk P w K mg base CX0 (k + 3) f fd ["self", "board"] (spNetI K C N) := by
  have GMv : FnOk P w K mg base CX0 1 fMv fdMv ["self"] (spMovers K C) := ok_movers FMv T
  refine F.ok scNetI (fun vs H Q E h => ?_) (fun cdv A outer s H vs Q E hr h => ?_)
  · obtain ⟨p, dx, pb, H0, b, rfl, _⟩ := h
    rfl
  · obtain ⟨p, dx, pb, H0, b, rfl, hp, np, s0, hB, ok, few, q⟩ := h
    have hu := hu_of hr
    have hr2 : Room 2 _ := hr.mono (by omega)
    refine ⟨_, pss_cons (ps_asg (pe_dc (own := [("number", 10), ("name", 11)]) (g := gTup K 2 (gCons (gName 10) (gCons (gName 11) gNil))) (tt := tYes) (tk := tVar 11) (tv := tVar 10) rfl scNetI.nd (pi_enumT rfl T.enu (pa_cons (pe_fld (pv 1) rfl) pa_nil)) (blkOk_by (N := ["self", "board", "nodes", "movers", "_", "one", "other", "contact", "mover", "way", "number", "name"]) (sc := defScope sNetInit) (by decide +kernel))
          (fun _ _ _ _ _ => pg_tup rfl (pgs_cons (pg_name (i := 10) scNetI.nd rfl (Or.inl rfl)) (pgs_cons (pg_name (i := 11) scNetI.nd rfl (Or.inl rfl)) pgs_nil))) (fun _ _ _ _ _ => pts_nil) (fun _ _ _ _ _ => pv 11) (fun _ _ _ _ _ => pv 10)) (pg_name (i := 2) scNetI.nd rfl (Or.inr rfl)))
      (pss_cons (ps_setDc (i := 3) (own := [("number", 10), ("name", 11)]) (g := gTup K 2 (gCons (gName 10) (gCons (gName 11) gNil))) (tt := tYes) (tk := tVar 11) (tv := tVar 10) rfl scNetI.nd rfl rfl (sw_trueD rfl rfl rfl (by decide +kernel)) (pi_enumT rfl T.enu (pa_cons (pe_prop (pv 1) T.cl PMv GMv hr2 bMv .nil pass0 rfl) pa_nil)) (blkOk_by (N := ["self", "board", "nodes", "movers", "_", "one", "other", "contact", "mover", "way", "number", "name"]) (sc := defScope sNetInit) (by decide +kernel))
          (fun _ _ _ _ _ => pg_tup rfl (pgs_cons (pg_name (i := 10) scNetI.nd rfl (Or.inl rfl)) (pgs_cons (pg_name (i := 11) scNetI.nd rfl (Or.inl rfl)) pgs_nil))) (fun _ _ _ _ _ => pts_nil) (fun _ _ _ _ _ => pv 11) (fun _ _ _ _ _ => pv 10))
      (pss_cons (ps_fld (pv 0) (pe_callB call_len_seq (by rfl) T.len PySem.boot_len (pa_cons (pe_fld (pv 1) rfl) pa_nil)) rfl)
      (pss_cons (ps_fld (pv 0) (pe_lc (own := [("_", 4), ("one", 5), ("other", 6)]) (g := gTup K 3 (gCons (gName 4) (gCons (gName 5) (gCons (gName 6) gNil)))) (tt := tYes) (te := tTup (tCons (tDGet (tVar 2) (tVar 5)) (tCons (tDGet (tVar 2) (tVar 6)) tNil))) rfl scNetI.nd (pi_tup (pe_fld (pv 1) rfl)) (blkOk_by (N := ["self", "board", "nodes", "movers", "_", "one", "other", "contact", "mover", "way", "number", "name"]) (sc := defScope sNetInit) (by decide +kernel))
          (fun _ _ _ _ _ => pg_tup rfl (pgs_cons (pg_name (i := 4) scNetI.nd rfl (Or.inl rfl)) (pgs_cons (pg_name (i := 5) scNetI.nd rfl (Or.inl rfl)) (pgs_cons (pg_name (i := 6) scNetI.nd rfl (Or.inl rfl)) pgs_nil)))) (fun _ _ _ _ _ => pts_nil) (fun _ _ _ _ _ => pe_tup (pa_cons (pe_dget hu (pv 2) (pv 5) (fun _ _ => rfl)) (pa_cons (pe_dget hu (pv 2) (pv 6) (fun _ _ => rfl)) pa_nil)))) rfl)
      (pss_cons (ps_fld (pv 0) (pe_lc (own := [("_", 4), ("one", 5), ("other", 6)]) (g := gTup K 3 (gCons (gName 4) (gCons (gName 5) (gCons (gName 6) gNil)))) (tt := tYes) (te := tTup (tCons (tDGet (tVar 2) (tVar 5)) (tCons (tDGet (tVar 2) (tVar 6)) tNil))) rfl scNetI.nd (pi_tup (pe_fld (pv 1) rfl)) (blkOk_by (N := ["self", "board", "nodes", "movers", "_", "one", "other", "contact", "mover", "way", "number", "name"]) (sc := defScope sNetInit) (by decide +kernel))
          (fun _ _ _ _ _ => pg_tup rfl (pgs_cons (pg_name (i := 4) scNetI.nd rfl (Or.inl rfl)) (pgs_cons (pg_name (i := 5) scNetI.nd rfl (Or.inl rfl)) (pgs_cons (pg_name (i := 6) scNetI.nd rfl (Or.inl rfl)) pgs_nil)))) (fun _ _ _ _ _ => pts_nil) (fun _ _ _ _ _ => pe_tup (pa_cons (pe_dget hu (pv 2) (pv 5) (fun _ _ => rfl)) (pa_cons (pe_dget hu (pv 2) (pv 6) (fun _ _ => rfl)) pa_nil)))) rfl)
      (pss_cons (ps_fld (pv 0) (pe_lst pa_nil) rfl)
      (pss_one (ps_for PassesOwn.never rfl (pi_tup (pe_fld (pv 1) rfl)) (pg_name (i := 7) scNetI.nd rfl (Or.inl rfl))
        (pss_cons (ps_asg (pv 7) (pg_tup rfl (pgs_cons (pg_name (i := 5) scNetI.nd rfl (Or.inl rfl)) (pgs_cons (pg_name (i := 6) scNetI.nd rfl (Or.inl rfl)) (pgs_cons (pg_name (i := 8) scNetI.nd rfl (Or.inl rfl)) (pgs_cons (pg_name (i := 4) scNetI.nd rfl (Or.inl rfl)) (pgs_cons (pg_name (i := 9) scNetI.nd rfl (Or.inl rfl)) pgs_nil)))))))
        (pss_one (ps_expr (pe_bm PySem.F.plainAttrs_list PySem.F.slot_list_append PySem.F.type_list_append mt_append (pe_fld (pv 0) rfl) (pa_cons (pe_tup (pa_cons (pv 7) (pa_cons (pe_dgetN hu (pv 3) (pv 8) ⟨rfl, rfl, rfl, rfl⟩) (pa_cons (pe_dget hu (pv 2) (pv 5) (fun _ _ => rfl)) (pa_cons (pe_dget hu (pv 2) (pv 6) (fun _ _ => rfl)) (pa_cons (pe_cmpR op_eq (pv 9) pe_str (nomark _)) pa_nil)))))) pa_nil)))))))))))), ?_⟩
    obtain ⟨dxb, fsb, tn, ts, tr, tl, tc, tm, xr, xl, xc, hpb, f, lm, hm, onb⟩ := id hB
    obtain ⟨_, ndN, _, l16⟩ := areNm_names ok.nodes
    obtain ⟨_, ndM, _, _⟩ := areNm_names ok.mv
    have lM : b.movers.length ≤ 1000 := by
      unfold Bd.movers
      rw [List.length_append, List.length_map]
      have := ok.sw
      have := ok.rl
      omega
    -- nodes
    refine ⟨_, rfl, pb, C, dxb, fsb, _, rfl, s0 _ _ hpb, T.cl, T.nN, f.ln, tn, _, rfl, Same.sqt s0 f.hn, fun D1 nD1 => ?_⟩
    refine pos_loop (i0 := 10) (i1 := 11) ndN (by omega) (Same.sqt s0 f.hn) nD1 (fun _ _ => rfl) (fun _ _ => rfl) (fun _ _ => rfl) fun H1 k1 s1 hd1 hP1 => ?_
    have e1 := s0.trans s1
    -- movers
    refine ⟨_, rfl, pb, dxb, fsb, rfl, e1 _ _ hpb, pb, b, rfl, hB.mono e1, fun tm' hm' => ⟨tm', _, rfl, hm', fun D2 nD2 => ?_⟩⟩
    refine pos_loop (i0 := 10) (i1 := 11) ndM lM hm' nD2 (fun _ _ => rfl) (fun _ _ => rfl) (fun _ _ => rfl) fun H2 k2 s2 hd2 hP2 => ?_
    have e2 := e1.trans s2
    -- _size
    refine ⟨_, rfl, pb, C, dxb, fsb, _, rfl, e2 _ _ hpb, T.cl, T.nN, f.ln, tn, _, rfl, .inr (Same.sqt e2 f.hn), ?_⟩
    refine ⟨_, rfl, p, N, dx, _, rfl, s2 _ _ (s1 _ _ hp), TN.cl, TN.n1, by decide, ?_⟩
    have keepD : ∀ {G : Hp} {d : Addr} {kvs : List (Key × V)} {fs fs' : List (Str × V)}, G p = some (.ins N dx fs) → G d = some (.dK kvs) → (upd G p (.ins N dx fs')) d = some (.dK kvs) := fun hg hd => by
      rw [upd_ne (ne_of hd hg (by intro z; cases z))]
      exact hd
    have keepL : ∀ {G : Hp} {d : Addr} {xs : List V} {fs fs' : List (Str × V)}, G p = some (.ins N dx fs) → G d = some (.lst xs) → (upd G p (.ins N dx fs')) d = some (.lst xs) := fun hg hd => by
      rw [upd_ne (ne_of hd hg (by intro z; cases z))]
      exact hd
    have p2 := s2 _ _ (s1 _ _ hp)
    have e3 : Same H0 (upd H2 p (.ins N dx (putF "_size" (.int ((b.nodes.map V.str).length : Nat)) []))) := same_mut e2 np
    have a3 := keepD (fs' := putF "_size" (.int ((b.nodes.map V.str).length : Nat)) []) p2 (s2 _ _ hd1)
    have b3 := keepD (fs' := putF "_size" (.int ((b.nodes.map V.str).length : Nat)) []) p2 hd2
    -- _coils
    refine ⟨_, rfl, pb, C, dxb, fsb, _, rfl, e3 _ _ hpb, T.cl, T.nR, f.lr, tr, rfl, ⟨_, Same.sqt e3 f.hr⟩, fun D3 nD3 => ?_⟩
    refine net_pairs (i0 := 4) (i1 := 5) (i2 := 6) (id := 2) a3 hP1 (f.rr.mono e3) (fun r hr => spanB_in (ok.spR r hr)) (by have := ok.rl; omega) (Same.sqt e3 f.hr) nD3 (fun _ _ _ => rfl) (fun _ _ _ => rfl) (fun _ _ _ => rfl) (fun _ _ _ => rfl) fun H4 yc s4 hc4 hY4 => ?_
    have p4 := s4 _ _ (upd_same (H := H2) (a := p) (o := .ins N dx (putF "_size" (.int ((b.nodes.map V.str).length : Nat)) [])))
    refine ⟨_, rfl, p, N, dx, _, rfl, p4, TN.cl, TN.n2, by have := nfs_len (.int ((b.nodes.map V.str).length : Nat)) .non .non; omega, ?_⟩
    have e5 : Same H0 (upd H4 p (.ins N dx (putF "_coils" (.ref D3) (putF "_size" (.int ((b.nodes.map V.str).length : Nat)) [])))) := same_mut (e3.trans s4) np
    have a5 := keepD (fs' := putF "_coils" (.ref D3) (putF "_size" (.int ((b.nodes.map V.str).length : Nat)) [])) p4 (s4 _ _ a3)
    have b5 := keepD (fs' := putF "_coils" (.ref D3) (putF "_size" (.int ((b.nodes.map V.str).length : Nat)) [])) p4 (s4 _ _ b3)
    have c5 := keepL (fs' := putF "_coils" (.ref D3) (putF "_size" (.int ((b.nodes.map V.str).length : Nat)) [])) p4 hc4
    -- _bulbs
    refine ⟨_, rfl, pb, C, dxb, fsb, _, rfl, e5 _ _ hpb, T.cl, T.nL, f.ll, tl, rfl, ⟨_, Same.sqt e5 f.hl⟩, fun D4 nD4 => ?_⟩
    refine net_pairs (i0 := 4) (i1 := 5) (i2 := 6) (id := 2) a5 hP1 (f.rl.mono e5) (fun r hr => spanB_in (ok.spL r hr)) few.l (Same.sqt e5 f.hl) nD4 (fun _ _ _ => rfl) (fun _ _ _ => rfl) (fun _ _ _ => rfl) (fun _ _ _ => rfl) fun H6 yb s6 hc6 hY6 => ?_
    have p6 := s6 _ _ (upd_same (H := H4) (a := p) (o := .ins N dx (putF "_coils" (.ref D3) (putF "_size" (.int ((b.nodes.map V.str).length : Nat)) []))))
    refine ⟨_, rfl, p, N, dx, _, rfl, p6, TN.cl, TN.n3, by have := nfs_len (.int ((b.nodes.map V.str).length : Nat)) (.ref D3) .non; omega, ?_⟩
    have e7 : Same H0 (upd H6 p (.ins N dx (putF "_bulbs" (.ref D4) (putF "_coils" (.ref D3) (putF "_size" (.int ((b.nodes.map V.str).length : Nat)) []))))) := same_mut (e5.trans s6) np
    have a7 := keepD (fs' := putF "_bulbs" (.ref D4) (putF "_coils" (.ref D3) (putF "_size" (.int ((b.nodes.map V.str).length : Nat)) []))) p6 (s6 _ _ a5)
    have b7 := keepD (fs' := putF "_bulbs" (.ref D4) (putF "_coils" (.ref D3) (putF "_size" (.int ((b.nodes.map V.str).length : Nat)) []))) p6 (s6 _ _ b5)
    have c7 := keepL (fs' := putF "_bulbs" (.ref D4) (putF "_coils" (.ref D3) (putF "_size" (.int ((b.nodes.map V.str).length : Nat)) []))) p6 (s6 _ _ c5)
    have d7 := keepL (fs' := putF "_bulbs" (.ref D4) (putF "_coils" (.ref D3) (putF "_size" (.int ((b.nodes.map V.str).length : Nat)) []))) p6 hc6
    have ry : Rows K (upd H6 p (.ins N dx (putF "_bulbs" (.ref D4) (putF "_coils" (.ref D3) (putF "_size" (.int ((b.nodes.map V.str).length : Nat)) []))))) yc ((b.relays.map (pairN b.nodes)).map arrV) :=
      KeepP.upd.rows p6 ((KeepP.upd.rows p4 hY4).mono s6)
    have rb : Rows K (upd H6 p (.ins N dx (putF "_bulbs" (.ref D4) (putF "_coils" (.ref D3) (putF "_size" (.int ((b.nodes.map V.str).length : Nat)) []))))) yb ((b.lamps.map (pairN b.nodes)).map arrV) := KeepP.upd.rows p6 hY6
    -- _links
    refine ⟨by show 0 ≤ sizeLine; decide, fun la nla => ?_⟩
    have sla := same_upd (o := .lst []) nla
    have p8 := sla _ _ (upd_same (H := H6) (a := p) (o := .ins N dx (putF "_bulbs" (.ref D4) (putF "_coils" (.ref D3) (putF "_size" (.int ((b.nodes.map V.str).length : Nat)) [])))))
    have nla0 : H0 la = none := e7.free nla
    have ncl : D3 ≠ la := ne_of_none c7 nla
    have ndl : D4 ≠ la := ne_of_none d7 nla
    refine ⟨_, rfl, p, N, dx, _, rfl, p8, TN.cl, TN.n4, by have := nfs_len (.int ((b.nodes.map V.str).length : Nat)) (.ref D3) (.ref D4); omega, ?_⟩
    generalize hF : putF "_links" (.ref la) (putF "_bulbs" (.ref D4) (putF "_coils" (.ref D3) (putF "_size" (.int ((b.nodes.map V.str).length : Nat)) []))) = fs4
    have lF : ∀ m, fs4.lookup m = if m = "_links" then some (.ref la) else if m = "_bulbs" then some (.ref D4) else if m = "_coils" then some (.ref D3) else if m = "_size" then some (.int ((b.nodes.map V.str).length : Nat)) else none := fun m => by
      rw [← hF]
      exact nfs_at _ _ _ _ m
    have l4 : fs4.lookup ("_links" : Str) = some (.ref la) := by rw [lF, if_pos rfl]
    have e9 : Same H0 (upd (upd (upd H6 p (.ins N dx (putF "_bulbs" (.ref D4) (putF "_coils" (.ref D3) (putF "_size" (.int ((b.nodes.map V.str).length : Nat)) []))))) la (.lst [])) p (.ins N dx fs4)) := same_mut (e7.trans sla) np
    have a9 := keepD (fs' := fs4) p8 (sla _ _ a7)
    have b9 := keepD (fs' := fs4) p8 (sla _ _ b7)
    have c9 := keepL (fs' := fs4) p8 (sla _ _ c7)
    have d9 := keepL (fs' := fs4) p8 (sla _ _ d7)
    have g9 := keepL (fs' := fs4) p8 (upd_same (H := upd H6 p (.ins N dx (putF "_bulbs" (.ref D4) (putF "_coils" (.ref D3) (putF "_size" (.int ((b.nodes.map V.str).length : Nat)) []))))) (a := la) (o := .lst []))
    have ry9 := KeepP.upd.rows (H' := upd _ p (.ins N dx fs4)) p8 (ry.mono sla)
    have rb9 := KeepP.upd.rows (H' := upd _ p (.ins N dx fs4)) p8 (rb.mono sla)
    have p9 := upd_same (H := upd (upd H6 p (.ins N dx (putF "_bulbs" (.ref D4) (putF "_coils" (.ref D3) (putF "_size" (.int ((b.nodes.map V.str).length : Nat)) []))))) la (.lst [])) (a := p) (o := .ins N dx fs4)
    generalize upd (upd (upd H6 p (.ins N dx (putF "_bulbs" (.ref D4) (putF "_coils" (.ref D3) (putF "_size" (.int ((b.nodes.map V.str).length : Nat)) []))))) la (.lst [])) p (.ins N dx fs4) = H9 at e9 a9 b9 c9 d9 g9 ry9 rb9 p9 ⊢
    -- the loop
    have lc := f.rc.len
    rw [List.length_map] at lc
    refine ⟨_, rfl, pb, C, dxb, fsb, _, rfl, e9 _ _ hpb, T.cl, T.nC, f.lc, tc, rfl, ⟨_, Same.sqt e9 f.hc⟩, for_tup (K := K) (a := tc) (xs := xc) (fun i σ G => (∃ z4 z5 z6 z7 z8 z9 : Option V, σ = [some (.ref p), some (.ref pb), some (.ref D1), some (.ref D2), z4, z5, z6, z7, z8, z9, none, none]) ∧ ∃ xl, G la = some (.lst xl) ∧ Links K G b xl (b.contacts.take i) ∧ KeepP la H9 G)
      ⟨⟨none, none, none, none, none, none, rfl⟩, [], g9, True.intro, fun _ _ _ h => h⟩ ?_ ?_ ?_⟩
    · rintro i σ G hi ⟨_, xl, _, _, kp⟩
      exact Same.sqt (fun x o h => kp x o (ne_of_none h nla0) (e9 x o h)) f.hc
    · rintro i v σ G hi ⟨⟨z4, z5, z6, z7, z8, z9, rfl⟩, xl, hla, hL, kp⟩
      obtain ⟨tt, rw_, rfl, hrow, hri⟩ := f.rc.at hi
      rw [List.getElem?_map] at hri
      obtain ⟨c, hc, rfl⟩ := Option.map_eq_some_iff.mp hri
      have cin := ctB_in (ok.cts c (List.mem_of_getElem? hc))
      have cmv := ctB_mv (ok.cts c (List.mem_of_getElem? hc))
      have eG : Same H0 G := fun x o h => kp x o (ne_of_none h nla0) (e9 x o h)
      have aG := kp _ _ (ne_of a9 g9 (by intro z; cases z)) a9
      have bG := kp _ _ (ne_of b9 g9 (by intro z; cases z)) b9
      have pG := kp _ _ (ne_of p9 g9 (by intro z; cases z)) p9
      have rowG := Same.sqt eG hrow
      have lx := hL.len
      rw [List.length_take] at lx
      refine ⟨_, rfl, tt, _, rfl, rowG, rfl, _, _, rfl, _, _, rfl, _, _, rfl, _, _, rfl, _, _, rfl, rfl, ?_⟩
      refine ⟨_, rfl, p, N, dx, _, _, rfl, pG, TN.cl, TN.n4, l4, .inl ⟨rfl, _, sq hla⟩, ?_⟩
      refine ⟨_, rfl, _, rfl, D2, rfl, .inl ⟨_, .inl bG⟩, _, rfl, _, getN bG hP2 cmv, ?_⟩
      have g1 : valV k1 (.inr c.one) = some (natV (posS b.nodes c.one)) := by rw [hP1, if_pos cin.1]
      have g2 : valV k1 (.inr c.oth) = some (natV (posS b.nodes c.oth)) := by rw [hP1, if_pos cin.2]
      refine ⟨_, rfl, _, rfl, D1, _, rfl, g1 ▸ DGet.k (k := .inr c.one) aG, _, rfl, _, rfl, D1, _, rfl, g2 ▸ DGet.k (k := .inr c.oth) aG, _, rfl, rfl, by show 5 ≤ sizeLine; decide, fun t nt => ?_⟩
      have st := same_upd (o := .tup [.ref tt, mvI b.movers c.mv, natV (posS b.nodes c.one), natV (posS b.nodes c.oth), .bl (decide (V.str c.way = V.str "both"))]) nt
      have ew : decide (V.str c.way = V.str "both") = decide (c.way = bothS) := decide_eq_decide.mpr ⟨fun h => V.str.inj h, fun h => congrArg V.str h⟩
      refine ⟨la, xl, _, rfl, rfl, st _ _ hla, szlt (by have := ok.ct; omega), ⟨_, _, _, _, _, _, rfl⟩, xl ++ [.ref t], upd_same, ?_, ?_⟩
      · rw [List.take_add_one, hc]
        refine Links.snoc (t := tt) ?_ ?_ ((hL.mono st).upd (st _ _ hla))
        · refine sqt_updl (st _ _ hla) (.inl (.inl ?_))
          rw [upd_same, ew]
          rfl
        · exact sqt_updl (st _ _ hla) (Same.sqt st rowG)
      · exact fun x o n h => by
          rw [upd_ne n]
          exact st _ _ (kp x o n h)
    · rintro σ G ⟨_, xl, hla, hL, kp⟩
      rw [lc, List.take_length] at hL
      have eG : Same H0 G := fun x o h => kp x o (ne_of_none h nla0) (e9 x o h)
      have keepR : ∀ {xs : List V} {rs : List (List V)}, Rows K H9 xs rs → Rows K G xs rs := by
        intro xs
        induction xs with
        | nil => intro rs h; cases rs with | nil => exact True.intro | cons _ _ => exact h
        | cons x xs ih =>
          intro rs h
          cases rs with
          | nil => exact h
          | cons r rs =>
            obtain ⟨⟨t, e, q⟩, h2⟩ := h
            refine ⟨⟨t, e, ?_⟩, ih h2⟩
            rcases q with (q | ⟨o, q⟩) | q
            · exact .inl (.inl (kp _ _ (ne_of q g9 (by intro z; cases z)) q))
            · exact .inl (.inr ⟨o, kp _ _ (ne_of q g9 (by intro z; cases z)) q⟩)
            · exact .inr q
      have pG := kp _ _ (ne_of p9 g9 (by intro z; cases z)) p9
      refine q G eG ⟨dx, fs4, D3, D4, la, yc, yb, xl, pG, ?_, ?_, ?_, l4, ?_, ?_, hla, keepR ry9, keepR rb9, hL, ?_⟩
      · rw [lF, if_neg (by decide +kernel), if_neg (by decide +kernel), if_neg (by decide +kernel), if_pos rfl, List.length_map]
        rfl
      · rw [lF, if_neg (by decide +kernel), if_neg (by decide +kernel), if_pos rfl]
      · rw [lF, if_neg (by decide +kernel), if_pos rfl]
      · exact kp _ _ ncl c9
      · exact kp _ _ ndl d9
      · intro m hm
        unfold netNames at hm
        simp only [List.mem_cons, List.not_mem_nil, or_false, not_or] at hm
        rw [lF, if_neg hm.2.2.2, if_neg hm.2.2.1, if_neg hm.2.1, if_neg hm.1]
/-! ### arrows and marks -/
def pairP (zs : List Str) (p : Str × Str) : Nat × Nat := (posS zs p.1, posS zs p.2)
theorem posS_inj {zs : List Str} {x y : Str} (hx : x ∈ zs) (hy : y ∈ zs) (e : posS zs x = posS zs y) : x = y := by
  have h1 := (posS_ok hx).1
  have h2 := (posS_ok hy).1
  rw [e, h2] at h1
  exact (Option.some.inj h1).symm
theorem npath_iff {ps : List (Str × Str)} {zs : List Str} (hin : ∀ p ∈ ps, p.1 ∈ zs ∧ p.2 ∈ zs) {z : Str} (hz : z ∈ zs) {j : Nat} : NPath (ps.map (pairP zs)) (posS zs z) j ↔ ∃ y, y ∈ zs ∧ posS zs y = j ∧ Path ps z y := by
  constructor
  · intro h
    induction h with
    | base => exact ⟨z, hz, rfl, .base⟩
    | @step x j _ e ih =>
      obtain ⟨y, hy, ey, py⟩ := ih
      obtain ⟨p, hp, ep⟩ := List.mem_map.mp e
      have e1 : posS zs p.1 = x := congrArg Prod.fst ep
      have e2 : posS zs p.2 = j := congrArg Prod.snd ep
      have e3 : y = p.1 := posS_inj hy (hin p hp).1 (ey.trans e1.symm)
      subst e3
      exact ⟨p.2, (hin p hp).2, e2, .step py hp⟩
  · rintro ⟨y, hy, rfl, py⟩
    induction py with
    | base => exact .base
    | @step x y _ e ih => exact .step (ih (hin _ e).1) (List.mem_map.mpr ⟨_, e, rfl⟩)
theorem marks_eq {ps : List (Str × Str)} {zs : List Str} (nd : zs.Nodup) (hin : ∀ p ∈ ps, p.1 ∈ zs ∧ p.2 ∈ zs) {z : Str} (hz : z ∈ zs) {fl : List Bool} (hl : fl.length = zs.length) (h : ∀ j, fl[j]? = some true ↔ NPath (ps.map (pairP zs)) (posS zs z) j) :
    fl = zs.map fun y => decide (y ∈ reachF ps [z] zs.length) := by
  refine List.ext_getElem? fun j => ?_
  rw [List.getElem?_map]
  by_cases hj : j < zs.length
  · have hy : zs[j]? = some zs[j] := List.getElem?_eq_getElem hj
    rw [hy]
    have e : (fl[j]? = some true) ↔ zs[j] ∈ reachF ps [z] zs.length := by
      rw [h j, npath_iff hin hz, reachF_mem hz (fun p hp => (hin p hp).2)]
      constructor
      · rintro ⟨y, hy1, hy2, hy3⟩
        have : y = zs[j] := by
          have q := (posS_ok hy1).1
          rw [hy2, hy] at q
          exact (Option.some.inj q).symm
        exact this ▸ hy3
      · intro p
        exact ⟨zs[j], List.getElem_mem hj, posS_at nd hy, p⟩
    have hf : fl[j]? = some fl[j] := List.getElem?_eq_getElem (by omega)
    rw [hf] at e ⊢
    show some fl[j] = some (decide _)
    congr 1
    cases q : fl[j] with
    | true =>
      rw [q] at e
      exact (decide_eq_true (e.mp rfl)).symm
    | false =>
      rw [q] at e
      exact (decide_eq_false fun z => by cases e.mpr z).symm
  · rw [List.getElem?_eq_none (by omega), List.getElem?_eq_none (by omega)]
    rfl
theorem pairsF_in {b : Bd} (ok : b.Ok) {on : List Bool} {i : Nat} : ∀ p ∈ pairsF b on i, p.1 ∈ b.nodes ∧ p.2 ∈ b.nodes := by
  intro p hp
  unfold pairsF at hp
  obtain ⟨l, hl, hp⟩ := List.mem_flatten.mp hp
  obtain ⟨c, hc, rfl⟩ := List.mem_map.mp hl
  have hin := ctB_in (ok.cts c (List.mem_of_mem_take hc))
  unfold waysOf at hp
  split at hp
  · rcases List.mem_cons.mp hp with rfl | hp
    · exact hin
    · split at hp
      · rw [List.mem_singleton.mp hp]
        exact ⟨hin.2, hin.1⟩
      · cases hp
  · cases hp
def feedF (b : Bd) (on : List Bool) : List Str := reachF ((pairsF b on b.contacts.length).map Prod.swap) [n1 b] b.nodes.length
def fedM (b : Bd) (on : List Bool) : List Bool := b.nodes.map fun z => decide (z ∈ fedF b on)
def feedM (b : Bd) (on : List Bool) : List Bool := b.nodes.map fun z => decide (z ∈ feedF b on)
def arrF (b : Bd) (on : List Bool) (i : Nat) : List (Nat × Nat) := (pairsF b on i).map (pairP b.nodes)
def onAt (ms : List Str) (on : List Bool) : Option Str → Bool
  | none => false
  | some m => on.getD (posS ms m) false
theorem closes_closed (ms : List Str) (on : List Bool) (c : Ct) : closesB c (onAt ms on c.mv) = closedB ms on c := by
  unfold closesB closedB onAt
  cases c.mv with
  | none => rfl
  | some m =>
    dsimp only
    cases on.getD (posS ms m) false <;> cases decide (c.whn = makeS) <;> rfl
theorem arrF_succ {b : Bd} {on : List Bool} {i : Nat} {c : Ct} (h : b.contacts[i]? = some c) : arrF b on (i + 1) = arrF b on i ++ (waysOf b.movers on c).map (pairP b.nodes) := by
  unfold arrF
  rw [pairsF_succ h, List.map_append]
def spArrows (K : PySem.W.Frag) (N : Addr) : Sp := fun vs H Q _ => ∃ (p m : Addr) (b : Bd) (on : List Bool), vs = [.ref p, .ref m] ∧ NetAt K N H p b ∧ b.Ok ∧ Sq K H m (on.map V.bl) ∧ on.length = b.movers.length ∧
  ∀ H' o ys, Same H H' → H o = none → H' o = some (.lst ys) → Rows K H' ys ((arrF b on b.contacts.length).map arrV) → Q (.ref o) H'
theorem scArrows : FnScope ["self", "movers", "arrows", "contact", "mover", "one", "other", "both"] ["self", "movers"] (defScope sNetArrows) := ⟨rfl, rfl, rfl, by decide +kernel, rfl, by decide +kernel, by decide +kernel⟩
theorem ok_arrows {f fC N : Addr} {fd fdC : FuncData} {k : Nat} (F : Fun K "_arrows" "Net._arrows" sNetArrows f fd) (TN : NTxt K N) (FC : Fun K "closes" "closes" sCloses fC fdC) (bC : Binds K fdC ["contact", "on"] []) (gC : mg "closes" = some (.ref fC)) :
    FnOk P w K mg base CX0 (k + 2) f fd ["self", "movers"] (spArrows K N) := by
  have GC : FnOk P w K mg base CX0 (k + 1) fC fdC ["contact", "on"] (spCloses K) := ok_closes FC
  refine F.ok scArrows (fun vs H Q E h => ?_) (fun cdv A outer s H vs Q E hr h => ?_)
  · obtain ⟨p, m, b, on, rfl, _⟩ := h
    rfl
  · obtain ⟨p, m, b, on, rfl, ⟨dx, fs, ca, ba, la, xc, xb, xl, hp, f⟩, ok, hm, lon, q⟩ := h
    refine ⟨_, pss_cons (ps_set (i := 2) scArrows.nd rfl (.inl rfl) (pe_lst pa_nil))
      (pss_cons (ps_for PassesOwn.never rfl (pi_list (pe_fld (pv 0) rfl)) (pg_tup rfl (pgs_cons (pg_name (i := 3) scArrows.nd rfl (.inl rfl)) (pgs_cons (pg_name (i := 4) scArrows.nd rfl (.inl rfl)) (pgs_cons (pg_name (i := 5) scArrows.nd rfl (.inl rfl)) (pgs_cons (pg_name (i := 6) scArrows.nd rfl (.inl rfl)) (pgs_cons (pg_name (i := 7) scArrows.nd rfl (.inl rfl)) pgs_nil))))))
        (pss_one (ps_if (pt_val (pe_call GC hr (by rfl) gC FC.kp bC .nil pass0 (pa_cons (pv 3) (pa_cons (pe_and (pe_cmpR op_notN (pv 4) pe_non (nomark _)) (pe_one (pe_ix ix_any (pv 1) (pv 4) (fun _ _ => rfl)))) pa_nil))))
          (pss_cons (ps_expr (pe_bm PySem.F.plainAttrs_list PySem.F.slot_list_append PySem.F.type_list_append mt_append (pv 2) (pa_cons (pe_tup (pa_cons (pv 5) (pa_cons (pv 6) pa_nil))) pa_nil)))
          (pss_one (ps_if (pt_val (pv 7)) (pss_one (ps_expr (pe_bm PySem.F.plainAttrs_list PySem.F.slot_list_append PySem.F.type_list_append mt_append (pv 2) (pa_cons (pe_tup (pa_cons (pv 6) (pa_cons (pv 5) pa_nil))) pa_nil)))) pss_nil))) pss_nil)))
      (pss_one (ps_ret (pv 2)))), ?_⟩
    refine ⟨by show 0 ≤ sizeLine; decide, fun o no => ?_⟩
    have so := same_upd (o := .lst []) no
    have lx := f.r4.len
    refine ⟨_, rfl, p, N, dx, _, _, rfl, so _ _ hp, TN.cl, TN.n4, f.l4, la, rfl, ⟨_, sq (so _ _ f.h4)⟩, for_list (K := K) (a := la) (xs := xl) (fun i σ G => (∃ z3 z4 z5 z6 z7 : Option V, σ = [some (.ref p), some (.ref m), some (.ref o), z3, z4, z5, z6, z7]) ∧ ∃ ys, Same H G ∧ G o = some (.lst ys) ∧ Rows K G ys ((arrF b on i).map arrV))
      ⟨⟨none, none, none, none, none, rfl⟩, [], so, upd_same, by unfold arrF pairsF; exact True.intro⟩ (fun i σ G _ ⟨_, _, sm, _⟩ => sq (sm _ _ f.h4)) ?_ ?_⟩
    · rintro i v σ G hi ⟨⟨z3, z4, z5, z6, z7, rfl⟩, ys, sm, ho, hR⟩
      obtain ⟨u, t, c, rfl, hu, ht, hc⟩ := f.r4.at hi
      have cin := ctB_in (ok.cts c (List.mem_of_getElem? hc))
      have cmv := ctB_mv (ok.cts c (List.mem_of_getElem? hc))
      have la2 : (arrF b on i).length ≤ 2 * i := by
        unfold arrF
        rw [List.length_map]
        exact pairsF_len b on i
      have hi40 : i < 40 := by
        have h1 := (List.getElem?_eq_some_iff.mp hc).1
        have := ok.ct
        omega
      have ly := hR.len
      rw [List.length_map] at ly
      refine ⟨u, _, rfl, Same.sqt sm hu, rfl, _, _, rfl, _, _, rfl, _, _, rfl, _, _, rfl, _, _, rfl, rfl, ?_⟩
      -- closes
      have arg : ∀ Qa : VK, Qa (.bl (onAt b.movers on c.mv)) G → tAndV (tOp (fun x y H Q => y = .non ∧ Q (.bl (!decide (x = .non))) H) (tVar 4) (tC .non)) (tOp (rIxA K) (tVar 1) (tVar 4)) [some (.ref p), some (.ref m), some (.ref o), some (.ref t), some (mvI b.movers c.mv), some (natV (posS b.nodes c.one)), some (natV (posS b.nodes c.oth)), some (.bl (decide (c.way = bothS)))] G Qa := by
        intro Qa qa
        refine ⟨_, rfl, rfl, _, rfl, ?_⟩
        cases e : c.mv with
        | none =>
          rw [e] at qa
          refine iteF ?_
          exact qa
        | some mo =>
          rw [e] at qa
          refine iteT ?_
          refine ⟨_, rfl, _, rfl, ?_⟩
          have hp2 := posS_lt (cmv mo e)
          refine ixA (Same.sq sm hm) (v := .bl (on.getD (posS b.movers mo) false)) (atI_nat ?_) qa
          rw [List.getElem?_map, List.getElem?_eq_getElem (by omega), List.getD_eq_getElem?_getD, List.getElem?_eq_getElem (by omega)]
          rfl
      refine ⟨_, rfl, arg _ ⟨t, c, _, rfl, Same.sqt sm ht, ⟨_, rfl, ?_⟩⟩⟩
      rw [closes_closed]
      have sn : ∀ {G' : Hp} {ys' : List V} {t' : Addr} {x y : Nat} {ps : List (Nat × Nat)}, G' o = some (.lst ys') → G' t' = none → Rows K G' ys' (ps.map arrV) → Rows K (upd (upd G' t' (.tup [natV x, natV y])) o (.lst (ys' ++ [.ref t']))) (ys' ++ [.ref t']) ((ps ++ [(x, y)]).map arrV) := by
        intro G' ys' t' x y ps ho' nt' hR'
        have st' := same_upd (o := .tup [natV x, natV y]) nt'
        have ne : o ≠ t' := ne_of_none ho' nt'
        rw [List.map_append]
        refine Rows.snoc ?_ (Rows.updl (st' _ _ ho') (hR'.mono st'))
        exact .inl (.inl (by rw [upd_ne ne.symm]; exact upd_same))
      cases e : closedB b.movers on c with
      | false =>
        refine iteF ?_
        refine ⟨⟨_, _, _, _, _, rfl⟩, ys, sm, ho, ?_⟩
        rw [arrF_succ hc]
        unfold waysOf
        rw [e, if_neg Bool.false_ne_true, List.map_nil, List.append_nil]
        exact hR
      | true =>
        refine iteT ?_
        refine ⟨_, rfl, .inl ⟨rfl, _, sq ho⟩, _, rfl, _, rfl, by show 2 ≤ sizeLine; decide, fun t1 nt1 => ?_⟩
        have s1 := same_upd (o := .tup [natV (posS b.nodes c.one), natV (posS b.nodes c.oth)]) nt1
        refine ⟨o, ys, _, rfl, rfl, s1 _ _ ho, szlt (by omega), ?_⟩
        have m1 := same_mut (sm.trans s1) no (o := .lst (ys ++ [.ref t1]))
        have R1 := sn (x := posS b.nodes c.one) (y := posS b.nodes c.oth) ho nt1 hR
        refine ⟨_, rfl, _, rfl, ?_⟩
        cases ew : decide (c.way = bothS) with
        | false =>
          refine iteF ?_
          refine ⟨⟨_, _, _, _, _, rfl⟩, _, m1, upd_same, ?_⟩
          rw [arrF_succ hc]
          unfold waysOf
          rw [e, if_pos rfl, if_neg (of_decide_eq_false ew)]
          exact R1
        | true =>
          refine iteT ?_
          refine ⟨_, rfl, .inl ⟨rfl, _, sq upd_same⟩, _, rfl, _, rfl, by show 2 ≤ sizeLine; decide, fun t2 nt2 => ?_⟩
          have s2 := same_upd (o := .tup [natV (posS b.nodes c.oth), natV (posS b.nodes c.one)]) nt2
          refine ⟨o, _, _, rfl, rfl, s2 _ _ upd_same, szlt (by rw [List.length_append]; show ys.length + 1 ≤ _; omega), ?_⟩
          refine ⟨⟨_, _, _, _, _, rfl⟩, _, same_mut (m1.trans s2) no, upd_same, ?_⟩
          rw [arrF_succ hc]
          unfold waysOf
          rw [e, if_pos rfl, if_pos (of_decide_eq_true ew)]
          have R2 := sn (x := posS b.nodes c.oth) (y := posS b.nodes c.one) upd_same nt2 R1
          rw [List.append_assoc (arrF b on i)] at R2
          exact R2
    · rintro σ G ⟨⟨z3, z4, z5, z6, z7, rfl⟩, ys, sm, ho, hR⟩
      rw [lx] at hR
      exact ⟨_, rfl, q G o ys sm no ho hR⟩
/-! ### zip of a tuple and a list -/
def ItzM (K : PySem.W.Frag) (a b : Addr) : It :=
  ⟨fun i H => ∃ (xs ys : List V) (x y : V), SqT K H a xs ∧ SqL K H b ys ∧ xs[i]? = some x ∧ ys[i]? = some y,
    fun i H v G => ∃ T x y, v = .ref T ∧ H T = none ∧ G = upd H T (.tup [x, y]) ∧ (∀ xs, SqT K H a xs → xs[i]? = some x) ∧ ∀ ys, SqL K H b ys → ys[i]? = some y,
    fun i H => ∃ xs ys : List V, SqT K H a xs ∧ SqL K H b ys ∧ xs.length = i ∧ ys.length = i⟩
theorem turn_zipM {P : Program} {w : World} {K : PySem.W.Frag} {elts : List Expr} {kk : Nat} {tpos : Pos} {a b z TI TO i1 i2 : Addr} (S : ZipSep2 z TI TO i1 i2 [i1, a] [i2, b]) (na : a ≠ i1) (nb : b ≠ i2) :
    Turn P w K (.Tuple elts kk tpos) (ItzM K a b) [z, TI, TO, i1, i2] z (fun i g => IsZip g z TI TO .none ∧ IsTupOf2 g TI (.ref i1) (.ref i2) ∧ (∃ x y, IsTupOf2 g TO x y) ∧ g.IsTupleIter i1 a i ∧ g.IsListIter i2 b i) where
  mem := by simp
  obj := fun i g y c hc => by
    obtain ⟨hz, hTI, ⟨x0, y0, hTO⟩, ⟨o1, e1, _, d1⟩, ⟨o2, e2, _, d2⟩⟩ := y
    have hc' : c = z ∨ c = TI ∨ c = TO ∨ c = i1 ∨ c = i2 := by simpa using hc
    rcases hc' with rfl | rfl | rfl | rfl | rfl
    · exact ⟨_, hz, fun v m => nomatch m⟩
    · exact ⟨_, hTI, fun v m => nomatch m⟩
    · exact ⟨_, hTO, fun v m => nomatch m⟩
    · exact ⟨o1, e1, fun v m => by rw [d1] at m; cases m⟩
    · exact ⟨o2, e2, fun v m => by rw [d2] at m; cases m⟩
  keep := fun i g g' y k => by
    obtain ⟨hz, hTI, ⟨x0, y0, hTO⟩, h1, h2⟩ := y
    exact ⟨k _ (by simp) _ hz, k _ (by simp) _ hTI, ⟨x0, y0, k _ (by simp) _ hTO⟩, h1.at fun o m => k _ (by simp) o m, h2.at fun o m => k _ (by simp) o m⟩
  item := by
    intro X hP hw hK hc i pins u σ H E I hf y hg
    subst hP hw hK
    obtain ⟨hz, hTI, ⟨x0, y0, hTO⟩, h1, h2⟩ := y
    obtain ⟨xs, ys, x, y, hqx, hqy, hx, hy⟩ := hg
    obtain ⟨its, rv, p1, _⟩ := I.tuple hqx
    obtain ⟨its2, rv2, p2, _⟩ := I.list hqy
    obtain ⟨vx, hvx, rx⟩ := rv.get hx
    obtain ⟨vy, hvy, ry⟩ := rv2.get hy
    have gx : its.toArray[i]? = some vx := by simpa using hvx
    have gy : its2.toArray[i]? = some vy := by simpa using hvy
    have l1 : i < its.toArray.size := by
      have m := (List.getElem?_eq_some_iff.mp hvx).1
      simpa using m
    have l2 : i < its2.toArray.size := by
      have m := (List.getElem?_eq_some_iff.mp hvy).1
      simpa using m
    have zl := Heap.lt_size hz
    have fp : ∀ c ∈ [z, TI, TO, i1, i2], c < u.heap.objs.size := fun c hcm => by
      have hc' : c = z ∨ c = TI ∨ c = TO ∨ c = i1 ∨ c = i2 := by simpa using hcm
      rcases hc' with e | e | e | e | e <;> subst e
      · exact zl
      · exact Heap.lt_size hTI
      · exact Heap.lt_size hTO
      · obtain ⟨_, e1, _⟩ := h1
        exact Heap.lt_size e1
      · obtain ⟨_, e2, _⟩ := h2
        exact Heap.lt_size e2
    refine wpAny_pyNext_zipD2_item S (Draws.tuple (prog := X.prog) (w := X.w) (A := X.A.in1) (I.ok.hd hc) i1 a na its.toArray) (Draws.list (prog := X.prog) (w := X.w) (A := X.A.in1) (I.ok.hd hc) i2 b nb its2.toArray) hz hTI hTO ⟨h1, p1⟩ ⟨h2, p2.isList⟩ l1 l2
      fun v1 v2 g tk e1 e2 hz' hTO' t1 t2 hT _ hk => ?_
    rw [gx] at e1
    rw [gy] at e2
    cases e1
    cases e2
    refine ⟨_, rfl, wpAny_letOwnedTupleGo_zip (s := { u with heap := g, toks := tk }) hz' fun g2 hz2 sb => ?_⟩
    have hT2 : g2.get? u.heap.objs.size = some { cls := .type "tuple", data := .seq #[vx, vy] } := (sb.2 _ (Nat.ne_of_gt zl)).trans hT
    have nw : ObjOk X.prog X.w (upd H u.heap.objs.size (.tup [x, y])) g2 u.heap.objs.size (.tup [x, y]) := ⟨by show 2 ≤ sizeLine; decide, [vx, vy], .cons rx (.cons ry .nil), ⟨_, hT2, rfl, _, rfl⟩⟩
    have I1 : Inv X pins σ (upd H u.heap.objs.size (.tup [x, y])) { u with heap := g2, toks := tk } :=
      I.turnedNew (ch := [z, TI, TO, i1, i2]) (fun c o hb m => (sb.2 c (fun e => hb (by simp [e]))).trans (hk c o (fun e => hb (by simp [e])) (fun e => hb (by simp [e])) (fun e => hb (by simp [e])) (fun e => hb (by simp [e])) m)) hf (Nat.le_refl _) nw
    refine ⟨.ref u.heap.objs.size, _, I1, rfl, ⟨_, x, y, rfl, I.hok.fresh (Nat.le_refl _), rfl, fun l hl => by rw [I.tuple_inj hl hqx]; exact hx, fun l hl => by rw [I.list_inj hl hqy]; exact hy⟩, ⟨hz2, ?_, ⟨vx, vy, ?_⟩, ?_, ?_⟩, fun c hcm => ?_⟩
    · exact (sb.2 _ S.TIz).trans (hk _ _ S.TIz S.TITO S.TIi1 S.TIi2 hTI)
    · exact (sb.2 _ S.TOz).trans hTO'
    · exact t1.1.at fun o m => (sb.2 _ S.zi1.symm).trans m
    · exact t2.1.at fun o m => (sb.2 _ S.zi2.symm).trans m
    · rw [upd_ne (Nat.ne_of_lt (fp c hcm))]
      exact (hf c hcm).1
  done := by
    intro X hP hw hK hc i pins u σ H E I hf y hg
    subst hP hw hK
    obtain ⟨hz, hTI, ⟨x0, y0, hTO⟩, h1, h2⟩ := y
    obtain ⟨xs, ys, hqx, hqy, ex, ey⟩ := hg
    obtain ⟨its, rv, p1, _⟩ := I.tuple hqx
    obtain ⟨its2, rv2, p2, _⟩ := I.list hqy
    have l1 : its.toArray.size = i := by
      have m := rv.length
      simp
      omega
    have l2 : its2.toArray.size = i := by
      have m := rv2.length
      simp
      omega
    refine wpAny_pyNext_zipD2_end S (Draws.tuple (prog := X.prog) (w := X.w) (A := X.A.in1) (I.ok.hd hc) i1 a na its.toArray) (Draws.list (prog := X.prog) (w := X.w) (A := X.A.in1) (I.ok.hd hc) i2 b nb its2.toArray) hz hTI hTO ⟨h1, p1⟩ ⟨h2, p2.isList⟩ (Nat.le_of_eq l1.symm) (Nat.le_of_eq l2.symm) (.inl l1.symm)
      fun g tk hk => ⟨rfl, I.turnedL (t' := tk) (ch := [z, TI, TO, i1, i2]) (fun c o hb m => hk c o (fun e => hb (by simp [e])) (fun e => hb (by simp [e])) (fun e => hb (by simp [e])) (fun e => hb (by simp [e])) m) hf⟩
  self := fun A i u Q E y m => wpAny_pyIter_zip y.1 m
def iZipM (K : PySem.W.Frag) (ta : TA) : TI := fun σ H R => ta σ H fun vs H1 => ∃ a b xs ys, vs = [.ref a, .ref b] ∧ SqT K H1 a xs ∧ SqL K H1 b ys ∧ R (ItzM K a b) H1
theorem pi_zipM {X : Cx} {e e2 : Expr} {ta : TA} {p pos tpos : Pos} {elts : List Expr} {kk : Nat} (hg : Gl X "zip") (hm : X.mg "zip" = none) (ha : PA X [e, e2] ta)
    (hs : starEach [e, e2] X.env = (false, eval e X.env) :: starEach [e2] X.env := by rfl) (hpl : (backTo pos (starEach [e2] X.env)).any (·.1) = false := by rfl) :
    PI X (.Tuple elts kk tpos) (.Call (.Name "zip" p) [e, e2] [] pos) (iZipM X.K ta) := by
  refine ⟨fun pins u σ H R I h => ?_⟩
  refine Call_ (ld_blt I hg hm PyProof.Rows.boot_zip (PyProof.Rows.callWith_type1 (thn (ha.run pos pins u σ H _ I h) fun us u1 hu => ?_) hs hpl))
  obtain ⟨vs, H1, I1, r1, a, b, xs, ys, rfl, hqx, hqy, q⟩ := hu
  cases r1 with
  | cons r rr =>
    cases rr with
    | cons r' rr =>
      cases rr
      cases r
      cases r'
      obtain ⟨its, rv, p1, _⟩ := I1.tuple hqx
      obtain ⟨its2, rv2, p2, _⟩ := I1.list hqy
      have la : a < u1.heap.objs.size := by
        obtain ⟨_, e1, _⟩ := id p1
        exact Heap.lt_size e1
      have lb : b < u1.heap.objs.size := by
        obtain ⟨_, _, e2, _⟩ := id p2
        exact Heap.lt_size e2
      have fp : ∀ c ∈ [u1.heap.objs.size + 4, u1.heap.objs.size + 2, u1.heap.objs.size + 3, u1.heap.objs.size, u1.heap.objs.size + 1], FpOk X pins H1 c := fun c hcm => by
        have hle : u1.heap.objs.size ≤ c := by
          have hc' : c = u1.heap.objs.size + 4 ∨ c = u1.heap.objs.size + 2 ∨ c = u1.heap.objs.size + 3 ∨ c = u1.heap.objs.size ∨ c = u1.heap.objs.size + 1 := by simpa using hcm
          rcases hc' with m | m | m | m | m <;> rw [m]
          · exact Nat.le_add_right _ _
          · exact Nat.le_add_right _ _
          · exact Nat.le_add_right _ _
          · exact Nat.le_refl _
          · exact Nat.le_add_right _ _
        exact I1.fpOk hle (I1.hok.fresh hle)
      have S : ZipSep2 (u1.heap.objs.size + 4) (u1.heap.objs.size + 2) (u1.heap.objs.size + 3) u1.heap.objs.size (u1.heap.objs.size + 1) [u1.heap.objs.size, a] [u1.heap.objs.size + 1, b] :=
        zip_sep2 (fp1 := [a]) (fp2 := [b]) (fun c hcm => by rw [List.mem_singleton.mp hcm]; exact la) (fun c hcm => by rw [List.mem_singleton.mp hcm]; exact lb)
      refine zip_begins2 (begins_tuple a its.toArray) (begins_list b its2.toArray) p1 p2.isList fun g hz hTI hTO g1 g2 _ hk => wpAny_pyIter_zip hz ?_
      have I2 : Inv X pins σ H1 { u1 with heap := g } := I1.kept (t' := u1.toks) hk
      refine ⟨u1.heap.objs.size + 4, [u1.heap.objs.size + 4, u1.heap.objs.size + 2, u1.heap.objs.size + 3, u1.heap.objs.size, u1.heap.objs.size + 1], _, _, H1, rfl, I2, turn_zipM S (Nat.ne_of_lt la) (Nat.ne_of_lt (Nat.lt_succ_of_lt lb)), ⟨hz, hTI, ⟨_, _, hTO⟩, ⟨_, g1, rfl, rfl⟩, ⟨_, g2, rfl, rfl⟩⟩, fp, q⟩
theorem walk_zipM {K : PySem.W.Frag} {a b : Addr} {xs ys : List V} (hl : xs.length = ys.length) : Walk (ItzM K a b) xs.length (fun H => SqT K H a xs ∧ SqL K H b ys) (YPair (fun i => xs[i]?) (fun i => ys[i]?)) := by
  refine ⟨fun i _ hi q => ⟨xs, ys, xs[i], ys[i]'(by omega), q.1, q.2, by simp [hi], by simp [← hl, hi]⟩, fun _ q => ⟨xs, ys, q.1, q.2, rfl, hl.symm⟩, fun i H v G _ q y => ?_⟩
  obtain ⟨T, x, y, h1, h2, h3, h4, h5⟩ := y
  exact ⟨T, x, y, h1, h2, h3, h4 xs q.1, h5 ys q.2⟩
/-- zip(a list or a tuple, a list) -/
def iZipX (K : PySem.W.Frag) (ta : TA) : TI := fun σ H R => ta σ H fun vs H1 => ∃ a b xs ys, vs = [.ref a, .ref b] ∧ SqL K H1 b ys ∧ ((SqL K H1 a xs ∧ R (Itz K a b) H1) ∨ (SqT K H1 a xs ∧ R (ItzM K a b) H1))
theorem pi_zipX {X : Cx} {e e2 : Expr} {ta : TA} {p pos tpos : Pos} {elts : List Expr} {kk : Nat} (hg : Gl X "zip") (hm : X.mg "zip" = none) (ha : PA X [e, e2] ta)
    (hs : starEach [e, e2] X.env = (false, eval e X.env) :: starEach [e2] X.env := by rfl) (hpl : (backTo pos (starEach [e2] X.env)).any (·.1) = false := by rfl) :
    PI X (.Tuple elts kk tpos) (.Call (.Name "zip" p) [e, e2] [] pos) (iZipX X.K ta) := by
  refine ⟨fun pins u σ H R I h => ?_⟩
  refine Call_ (ld_blt I hg hm PyProof.Rows.boot_zip (PyProof.Rows.callWith_type1 (thn (ha.run pos pins u σ H _ I h) fun us u1 hu => ?_) hs hpl))
  obtain ⟨vs, H1, I1, r1, a, b, xs, ys, rfl, hqy, hq⟩ := hu
  cases r1 with
  | cons r rr =>
    cases rr with
    | cons r' rr =>
      cases rr
      cases r
      cases r'
      obtain ⟨its2, rv2, p2, _⟩ := I1.list hqy
      have lb : b < u1.heap.objs.size := by
        obtain ⟨_, _, e2, _⟩ := id p2
        exact Heap.lt_size e2
      have fp : ∀ c ∈ [u1.heap.objs.size + 4, u1.heap.objs.size + 2, u1.heap.objs.size + 3, u1.heap.objs.size, u1.heap.objs.size + 1], FpOk X pins H1 c := fun c hcm => by
        have hle : u1.heap.objs.size ≤ c := by
          have hc' : c = u1.heap.objs.size + 4 ∨ c = u1.heap.objs.size + 2 ∨ c = u1.heap.objs.size + 3 ∨ c = u1.heap.objs.size ∨ c = u1.heap.objs.size + 1 := by simpa using hcm
          rcases hc' with m | m | m | m | m <;> rw [m]
          · exact Nat.le_add_right _ _
          · exact Nat.le_add_right _ _
          · exact Nat.le_add_right _ _
          · exact Nat.le_refl _
          · exact Nat.le_add_right _ _
        exact I1.fpOk hle (I1.hok.fresh hle)
      rcases hq with ⟨hqx, q⟩ | ⟨hqx, q⟩
      · obtain ⟨its, rv, p1, _⟩ := I1.list hqx
        refine call_zip_2 p1.isList p2.isList fun g hz hTI hTO g1 g2 _ hk => wpAny_pyIter_zip hz ?_
        exact ⟨u1.heap.objs.size + 4, [u1.heap.objs.size + 4, u1.heap.objs.size + 2, u1.heap.objs.size + 3, u1.heap.objs.size, u1.heap.objs.size + 1], _, _, H1, rfl, I1.kept (t' := u1.toks) hk, turn_zip (PySem.W.ktu_apart u1.heap.objs.size a b p1.lt p2.lt), ⟨hz, hTI, ⟨_, _, hTO⟩, g1, g2⟩, fp, q⟩
      · obtain ⟨its, rv, p1, _⟩ := I1.tuple hqx
        have la : a < u1.heap.objs.size := by
          obtain ⟨_, e1, _⟩ := id p1
          exact Heap.lt_size e1
        have S : ZipSep2 (u1.heap.objs.size + 4) (u1.heap.objs.size + 2) (u1.heap.objs.size + 3) u1.heap.objs.size (u1.heap.objs.size + 1) [u1.heap.objs.size, a] [u1.heap.objs.size + 1, b] :=
          zip_sep2 (fp1 := [a]) (fp2 := [b]) (fun c hcm => by rw [List.mem_singleton.mp hcm]; exact la) (fun c hcm => by rw [List.mem_singleton.mp hcm]; exact lb)
        refine zip_begins2 (begins_tuple a its.toArray) (begins_list b its2.toArray) p1 p2.isList fun g hz hTI hTO g1 g2 _ hk => wpAny_pyIter_zip hz ?_
        exact ⟨u1.heap.objs.size + 4, [u1.heap.objs.size + 4, u1.heap.objs.size + 2, u1.heap.objs.size + 3, u1.heap.objs.size, u1.heap.objs.size + 1], _, _, H1, rfl, I1.kept (t' := u1.toks) hk, turn_zipM S (Nat.ne_of_lt la) (Nat.ne_of_lt (Nat.lt_succ_of_lt lb)), ⟨hz, hTI, ⟨_, _, hTO⟩, ⟨_, g1, rfl, rfl⟩, ⟨_, g2, rfl, rfl⟩⟩, fp, q⟩
/-! ### marked -/
def markF (zs : List Str) (fl : List Bool) : List Str := ((zs.zip fl).filter (·.2)).map (·.1)
theorem markF_len (zs : List Str) (fl : List Bool) : (markF zs fl).length ≤ zs.length := by
  unfold markF
  rw [List.length_map]
  refine Nat.le_trans (List.length_filter_le _ _) ?_
  rw [List.length_zip]
  exact Nat.min_le_left _ _
theorem markF_t {zs : List Str} {fl : List Bool} {i : Nat} {z : Str} {x : Bool} (hz : zs[i]? = some z) (hx : fl[i]? = some x) : markF (zs.take (i + 1)) (fl.take (i + 1)) = markF (zs.take i) (fl.take i) ++ (if x = true then [z] else []) := by
  have l1 := (List.getElem?_eq_some_iff.mp hz).1
  have l2 := (List.getElem?_eq_some_iff.mp hx).1
  unfold markF
  rw [List.take_add_one, List.take_add_one, hz, hx, Option.toList_some, Option.toList_some, List.zip_append (by rw [List.length_take, List.length_take]; omega), List.filter_append, List.map_append]
  cases x <;> rfl
theorem markF_map (zs : List Str) (f : Str → Bool) : markF zs (zs.map f) = zs.filter f := by
  unfold markF
  induction zs with
  | nil => rfl
  | cons z zs ih =>
    rw [List.map_cons, List.zip_cons_cons, List.filter_cons, List.filter_cons]
    cases e : f z with
    | true =>
      rw [if_pos rfl, if_pos rfl, List.map_cons, ih]
    | false =>
      rw [if_neg Bool.false_ne_true, if_neg Bool.false_ne_true, ih]
def spMarked (K : PySem.W.Frag) : Sp := fun vs H Q _ => ∃ (a b : Addr) (zs : List Str) (fl : List Bool), vs = [.ref a, .ref b] ∧ Sq K H a (zs.map V.str) ∧ H b = some (.lst (fl.map V.bl)) ∧ zs.length = fl.length ∧ zs.length ≤ 1000 ∧
  ∀ H' o, Same H H' → H o = none → H' o = some (.lst ((markF zs fl).map V.str)) → Q (.ref o) H'
theorem scMarked : FnScope ["names", "marks", "name", "mark"] ["names", "marks"] (defScope sMarked) := ⟨rfl, rfl, rfl, by decide +kernel, rfl, by decide +kernel, by decide +kernel⟩
theorem ok_marked {f : Addr} {fd : FuncData} {k : Nat} (F : Fun K "marked" "marked" sMarked f fd) (mz : mg "zip" = none) : FnOk P w K mg base CX0 (k + 1) f fd ["names", "marks"] (spMarked K) := by
  refine F.ok scMarked (fun vs H Q E h => ?_) (fun cdv A outer s H vs Q E hr h => ?_)
  · obtain ⟨a, b, zs, fl, rfl, _⟩ := h
    rfl
  · obtain ⟨a, b, zs, fl, rfl, ha, hb, hl, h1000, q⟩ := h
    refine ⟨_, pss_one (ps_ret (pe_lc (own := [("name", 2), ("mark", 3)]) (g := gTup K 2 (gCons (gName 2) (gCons (gName 3) gNil))) rfl scMarked.nd (pi_zipX rfl mz (pa_cons (pv 0) (pa_cons (pv 1) pa_nil))) (blkOk_by (N := ["names", "marks", "name", "mark"]) (sc := defScope sMarked) (by decide +kernel))
      (fun _ _ _ _ _ => pg_tup rfl (pgs_cons (pg_name (i := 2) scMarked.nd rfl (Or.inl rfl)) (pgs_cons (pg_name (i := 3) scMarked.nd rfl (Or.inl rfl)) pgs_nil))) (tt := tTest (tVar 3)) (fun _ _ _ _ _ => pts_one (pt_val (pv 3))) (fun _ _ _ _ _ => pv 2))), ?_⟩
    refine ⟨_, rfl, _, rfl, a, b, zs.map V.str, fl.map V.bl, rfl, sq hb, ?_⟩
    have turn : ∀ (D : Addr) (nD : H D = none) (i : Nat) (v : V) (G G2 : Hp), i < zs.length → (Same H G ∧ G D = some (.lst ((markF (zs.take i) (fl.take i)).map V.str))) → YPair (fun i => (zs.map V.str)[i]?) (fun i => (fl.map V.bl)[i]?) i G v G2 →
        gTup K 2 (gCons (gName 2) (gCons (gName 3) gNil)) v (wipe [some (.ref a), some (.ref b), none, none] [2, 3]) G2 fun σ2 H2 => wipe σ2 [2, 3] = wipe [some (.ref a), some (.ref b), none, none] [2, 3] ∧ tTest (tVar 3) σ2 H2 fun b H3 =>
          if b = true then tVar 2 σ2 H3 fun y H4 => ∃ acc, H4 D = some (.lst acc) ∧ acc.length < sizeLine ∧ (Same H (upd H4 D (.lst (acc ++ [y]))) ∧ (upd H4 D (.lst (acc ++ [y]))) D = some (.lst ((markF (zs.take (i + 1)) (fl.take (i + 1))).map V.str)))
          else (Same H H3 ∧ H3 D = some (.lst ((markF (zs.take (i + 1)) (fl.take (i + 1))).map V.str))) := by
      rintro D nD i v G G2 hi ⟨sm, hd⟩ ⟨t, x, y, rfl, nt, rfl, hx, hy⟩
      have hz : zs[i]? = some zs[i] := List.getElem?_eq_getElem hi
      have hf : fl[i]? = some (fl[i]'(by omega)) := List.getElem?_eq_getElem (by omega)
      have hx : (zs.map V.str)[i]? = some x := hx
      have hy : (fl.map V.bl)[i]? = some y := hy
      rw [List.getElem?_map, hz] at hx
      rw [List.getElem?_map, hf] at hy
      have ex : x = .str zs[i] := (Option.some.inj hx).symm
      have ey : y = .bl (fl[i]'(by omega)) := (Option.some.inj hy).symm
      subst ex
      subst ey
      have s2 := same_upd (o := .tup [.str zs[i], .bl (fl[i]'(by omega))]) nt
      refine ⟨t, _, rfl, st upd_same, rfl, _, _, rfl, _, _, rfl, rfl, rfl, _, rfl, _, rfl, ?_⟩
      rw [markF_t hz hf]
      refine ite2 (fun e => ?_) (fun e => ?_)
      · refine ⟨_, rfl, _, s2 _ _ hd, ?_, same_mut (sm.trans s2) nD, ?_⟩
        · rw [List.length_map]
          have := markF_len (zs.take i) (fl.take i)
          rw [List.length_take] at this
          exact szlt (by omega)
        · rw [upd_same, if_pos e, map_snoc]
      · refine ⟨sm.trans s2, ?_⟩
        rw [if_neg e, List.append_nil]
        exact s2 _ _ hd
    rcases ha with ha | ha
    · refine .inl ⟨ha, fun D nD => lc_it (walk_zip (n := zs.length) (by rw [List.length_map, List.length_map]; omega)) (fun i G => Same H G ∧ G D = some (.lst ((markF (zs.take i) (fl.take i)).map V.str))) ⟨same_upd nD, upd_same⟩ (fun i G _ h => ⟨h.1.seq ha, sq (h.1 _ _ hb)⟩) (turn D nD) ?_⟩
      rintro G ⟨sm, hd⟩
      rw [List.take_length, hl, List.take_length] at hd
      exact q G D sm nD hd
    · refine .inr ⟨ha, fun D nD => lc_it (walk_zipM (by rw [List.length_map, List.length_map]; exact hl)) (fun i G => Same H G ∧ G D = some (.lst ((markF (zs.take i) (fl.take i)).map V.str))) ⟨same_upd nD, upd_same⟩ (fun i G _ h => ⟨Same.sqt h.1 ha, sq (h.1 _ _ hb)⟩) (fun i v G G2 hi => turn D nD i v G G2 (by rw [List.length_map] at hi; exact hi)) ?_⟩
      rintro G ⟨sm, hd⟩
      rw [List.length_map, List.take_length, hl, List.take_length] at hd
      exact q G D sm nD hd
/-! ### fed_nodes, feeding_nodes -/
structure NetM (K : PySem.W.Frag) (mg : Str → Option Value) (N fI fA : Addr) : Prop where
  mgN : mg "Net" = some (.ref N)
  make : Mk K N fI
  ma : Meth K N "_arrows" fA
  gP : ∃ t, mg "PLUS" = some (.int 0 t)
  gM : ∃ t, mg "MINUS" = some (.int 1 t)
theorem arrF_bound {b : Bd} (ok : b.Ok) {on : List Bool} : (arrF b on b.contacts.length).length ≤ 1000 ∧ ∀ p ∈ arrF b on b.contacts.length, p.1 < b.nodes.length ∧ p.2 < b.nodes.length := by
  constructor
  · unfold arrF
    rw [List.length_map]
    have := pairsF_len b on b.contacts.length
    have := ok.ct
    omega
  · intro p hp
    unfold arrF at hp
    obtain ⟨q, hq, rfl⟩ := List.mem_map.mp hp
    have := pairsF_in ok q hq
    exact ⟨posS_lt this.1, posS_lt this.2⟩
theorem n0_at {b : Bd} (ok : b.Ok) : n0 b ∈ b.nodes ∧ posS b.nodes (n0 b) = 0 ∧ n1 b ∈ b.nodes ∧ posS b.nodes (n1 b) = 1 := by
  obtain ⟨_, nd, _, _⟩ := areNm_names ok.nodes
  obtain ⟨h0, h1, _⟩ := nodes01 ok
  exact ⟨List.mem_of_getElem? h0, posS_at nd h0, List.mem_of_getElem? h1, posS_at nd h1⟩
def spFedN (K : PySem.W.Frag) (N : Addr) (f : Bd → List Bool → List Bool) : Sp := fun vs H Q _ => ∃ (p m : Addr) (b : Bd) (on : List Bool), vs = [.ref p, .ref m] ∧ NetAt K N H p b ∧ b.Ok ∧ Sq K H m (on.map V.bl) ∧ on.length = b.movers.length ∧
  ∀ H' o, Same H H' → H o = none → H' o = some (.lst ((f b on).map V.bl)) → Q (.ref o) H'
theorem scFedN : FnScope ["self", "movers"] ["self", "movers"] (defScope sNetFedNodes) := ⟨rfl, rfl, rfl, by decide +kernel, rfl, by decide +kernel, by decide +kernel⟩
theorem scFeedN : FnScope ["self", "movers"] ["self", "movers"] (defScope sNetFeedingNodes) := ⟨rfl, rfl, rfl, by decide +kernel, rfl, by decide +kernel, by decide +kernel⟩
theorem ok_fedN {f fI fA fC fS N : Addr} {fd fdA fdC fdS : FuncData} {k : Nat} (F : Fun K "fed_nodes" "Net.fed_nodes" sNetFedNodes f fd) (TN : NTxt K N) (M : NetM K mg N fI fA) (FA : Fun K "_arrows" "Net._arrows" sNetArrows fA fdA) (bA : Binds K fdA ["self", "movers"] [])
    (FC : Fun K "closes" "closes" sCloses fC fdC) (bC : Binds K fdC ["contact", "on"] []) (gC : mg "closes" = some (.ref fC)) (FS : Fun K "_spread" "_spread" sSpread fS fdS) (bS : Binds K fdS ["start", "arrows", "size"] []) (gS : mg "_spread" = some (.ref fS)) (mr : mg "range" = none) :
    FnOk P w K mg base CX0 (k + 3) f fd ["self", "movers"] (spFedN K N fedM) := by
  have GA : FnOk P w K mg base CX0 (k + 2) fA fdA ["self", "movers"] (spArrows K N) := ok_arrows FA TN FC bC gC
  have GS : FnOk P w K mg base CX0 (k + 1) fS fdS ["start", "arrows", "size"] (spSpread K) := ok_spread FS mr
  obtain ⟨tP, gP⟩ := M.gP
  refine F.ok scFedN (fun vs H Q E h => ?_) (fun cdv A outer s H vs Q E hr h => ?_)
  · obtain ⟨p, m, b, on, rfl, _⟩ := h
    rfl
  · obtain ⟨p, m, b, on, rfl, hN, ok, hm, lon, q⟩ := h
    have hr1 : Room (k + 1) _ := hr.mono (by omega)
    refine ⟨_, pss_one (ps_ret (pe_call GS hr1 (by rfl) gS FS.kp bS .nil pass0 (pa_cons (pe_glob (v := .int 0) (by rfl) gP ⟨_, rfl⟩) (pa_cons (pe_meth (pv 0) TN.cl M.ma GA hr bA .nil pass0 (pa_cons (pv 1) pa_nil)) (pa_cons (pe_fld (pv 0) rfl) pa_nil))))), ?_⟩
    obtain ⟨dx, fs, ca, ba, la, xc, xb, xl, hp, fN⟩ := id hN
    obtain ⟨m0, e0, _, _⟩ := n0_at ok
    obtain ⟨_, nd, l2, l16⟩ := areNm_names ok.nodes
    obtain ⟨a1, a2⟩ := arrF_bound ok (on := on)
    refine ⟨_, rfl, p, dx, fs, rfl, hp, fN.only _ (by decide +kernel), _, rfl, p, m, b, on, rfl, hN, ok, hm, lon, fun H1 o ys s1 no ho hR => ?_⟩
    refine ⟨_, rfl, p, N, dx, fs, _, rfl, s1 _ _ hp, TN.cl, TN.n1, fN.l1, 0, b.nodes.length, o, ys, _, rfl, by omega, by omega, ho, hR, a1, a2, fun H2 o2 fl s2 no2 ho2 hlen hfl => ?_⟩
    refine q H2 o2 (s1.trans s2) (s1.free no2) ?_
    rw [ho2]
    have hfl' : ∀ j, fl[j]? = some true ↔ NPath ((pairsF b on b.contacts.length).map (pairP b.nodes)) (posS b.nodes (n0 b)) j := by
      rw [e0]
      exact hfl
    rw [marks_eq nd (pairsF_in ok) m0 hlen hfl']
    rfl
theorem swap_pair (zs : List Str) (ps : List (Str × Str)) : (ps.map (pairP zs)).map Prod.swap = (ps.map Prod.swap).map (pairP zs) := by
  rw [List.map_map, List.map_map]
  rfl
theorem ok_feedN {f fI fA fC fS fT N : Addr} {fd fdA fdC fdS fdT : FuncData} {k : Nat} (F : Fun K "feeding_nodes" "Net.feeding_nodes" sNetFeedingNodes f fd) (TN : NTxt K N) (M : NetM K mg N fI fA) (FA : Fun K "_arrows" "Net._arrows" sNetArrows fA fdA) (bA : Binds K fdA ["self", "movers"] [])
    (FC : Fun K "closes" "closes" sCloses fC fdC) (bC : Binds K fdC ["contact", "on"] []) (gC : mg "closes" = some (.ref fC)) (FS : Fun K "_spread" "_spread" sSpread fS fdS) (bS : Binds K fdS ["start", "arrows", "size"] []) (gS : mg "_spread" = some (.ref fS)) (mr : mg "range" = none)
    (FT : Fun K "_turned" "_turned" sTurned fT fdT) (bT : Binds K fdT ["arrows"] []) (gT : mg "_turned" = some (.ref fT)) : FnOk P w K mg base CX0 (k + 3) f fd ["self", "movers"] (spFedN K N feedM) := by
  have GA : FnOk P w K mg base CX0 (k + 2) fA fdA ["self", "movers"] (spArrows K N) := ok_arrows FA TN FC bC gC
  have GS : FnOk P w K mg base CX0 (k + 1) fS fdS ["start", "arrows", "size"] (spSpread K) := ok_spread FS mr
  have GT : FnOk P w K mg base CX0 (k + 1) fT fdT ["arrows"] (spTurned K) := ok_turned FT
  obtain ⟨tP, gP⟩ := M.gM
  refine F.ok scFeedN (fun vs H Q E h => ?_) (fun cdv A outer s H vs Q E hr h => ?_)
  · obtain ⟨p, m, b, on, rfl, _⟩ := h
    rfl
  · obtain ⟨p, m, b, on, rfl, hN, ok, hm, lon, q⟩ := h
    have hr1 : Room (k + 1) _ := hr.mono (by omega)
    refine ⟨_, pss_one (ps_ret (pe_call GS hr1 (by rfl) gS FS.kp bS .nil pass0 (pa_cons (pe_glob (v := .int 1) (by rfl) gP ⟨_, rfl⟩) (pa_cons (pe_call GT hr1 (by rfl) gT FT.kp bT .nil pass0 (pa_cons (pe_meth (pv 0) TN.cl M.ma GA hr bA .nil pass0 (pa_cons (pv 1) pa_nil)) pa_nil)) (pa_cons (pe_fld (pv 0) rfl) pa_nil))))), ?_⟩
    obtain ⟨dx, fs, ca, ba, la, xc, xb, xl, hp, fN⟩ := id hN
    obtain ⟨_, _, m0, e0⟩ := n0_at ok
    obtain ⟨_, nd, l2, l16⟩ := areNm_names ok.nodes
    obtain ⟨a1, a2⟩ := arrF_bound ok (on := on)
    refine ⟨_, rfl, p, dx, fs, rfl, hp, fN.only _ (by decide +kernel), _, rfl, p, m, b, on, rfl, hN, ok, hm, lon, fun H1 o ys s1 no ho hR => ?_⟩
    refine ⟨o, ys, _, rfl, ho, hR, a1, fun H2 o2 ys2 s2 no2 ho2 hR2 => ?_⟩
    refine ⟨_, rfl, p, N, dx, fs, _, rfl, s2 _ _ (s1 _ _ hp), TN.cl, TN.n1, fN.l1, 1, b.nodes.length, o2, ys2, _, rfl, by omega, by omega, ho2, hR2, by rw [List.length_map]; exact a1, ?_, fun H3 o3 fl s3 no3 ho3 hlen hfl => ?_⟩
    · intro p hp
      obtain ⟨r, hr, rfl⟩ := List.mem_map.mp hp
      exact ⟨(a2 r hr).2, (a2 r hr).1⟩
    · refine q H3 o3 (s1.trans (s2.trans s3)) ((s1.trans s2).free no3) ?_
      rw [ho3]
      have hfl' : ∀ j, fl[j]? = some true ↔ NPath (((pairsF b on b.contacts.length).map Prod.swap).map (pairP b.nodes)) (posS b.nodes (n1 b)) j := by
        rw [e0, ← swap_pair]
        exact hfl
      have hin : ∀ p ∈ (pairsF b on b.contacts.length).map Prod.swap, p.1 ∈ b.nodes ∧ p.2 ∈ b.nodes := by
        intro p hp
        obtain ⟨r, hr, rfl⟩ := List.mem_map.mp hp
        have := pairsF_in ok r hr
        exact ⟨this.2, this.1⟩
      rw [marks_eq nd hin m0 hlen hfl']
      rfl
/-! ### fed, feeds, is_short -/
def StAt (K : PySem.W.Frag) (H : Hp) (st : Addr) (b : Bd) (on : List Bool) (u : Bool) : Prop := ∃ tt, SqT K H st [.ref tt, .bl u] ∧ SqT K H tt (on.map V.bl) ∧ on.length = b.movers.length
theorem StAt.mono {H H' : Hp} {st : Addr} {b : Bd} {on : List Bool} {u : Bool} (s : Same H H') : StAt K H st b on u → StAt K H' st b on u
  | ⟨tt, h1, h2, h3⟩ => ⟨tt, Same.sqt s h1, Same.sqt s h2, h3⟩
def spFed (K : PySem.W.Frag) (C : Addr) (f : Bd → List Bool → List Str) : Sp := fun vs H Q _ => ∃ (pb st : Addr) (b : Bd) (on : List Bool) (u : Bool), vs = [.ref pb, .ref st] ∧ BoardAt K C H pb b ∧ b.Ok ∧ Few b ∧ StAt K H st b on u ∧
  ∀ H' o, Same H H' → H o = none → H' o = some (.lst ((b.nodes.filter fun z => decide (z ∈ f b on)).map V.str)) → Q (.ref o) H'
theorem scFed : FnScope ["board", "state"] ["board", "state"] (defScope sFed) := ⟨rfl, rfl, rfl, by decide +kernel, rfl, by decide +kernel, by decide +kernel⟩
theorem scFeeds : FnScope ["board", "state"] ["board", "state"] (defScope sFeeds) := ⟨rfl, rfl, rfl, by decide +kernel, rfl, by decide +kernel, by decide +kernel⟩
theorem scShort : FnScope ["board", "state"] ["board", "state"] (defScope sIsShort) := ⟨rfl, rfl, rfl, by decide +kernel, rfl, by decide +kernel, by decide +kernel⟩
theorem fedM_filter (b : Bd) (on : List Bool) : markF b.nodes (fedM b on) = b.nodes.filter fun z => decide (z ∈ fedF b on) := markF_map _ _
theorem feedM_filter (b : Bd) (on : List Bool) : markF b.nodes (feedM b on) = b.nodes.filter fun z => decide (z ∈ feedF b on) := markF_map _ _
theorem ok_fed {f fI fN fA fMk C N sp sg : Addr} {mc : Value} {fd fdI fdN fdMk : FuncData} {k : Nat} (F : Fun K "fed" "fed" sFed f fd) (T : BTxt K mg C mc sp sg) (TN : NTxt K N) (M : NetM K mg N fI fA) (bI : Binds K fdI ["self", "board"] [])
    (GI : FnOk P w K mg base CX0 (k + 3) fI fdI ["self", "board"] (spNetI K C N)) (mN : Meth K N "fed_nodes" fN) (bN : Binds K fdN ["self", "movers"] []) (GN : FnOk P w K mg base CX0 (k + 3) fN fdN ["self", "movers"] (spFedN K N fedM))
    (FMk : Fun K "marked" "marked" sMarked fMk fdMk) (bMk : Binds K fdMk ["names", "marks"] []) (gMk : mg "marked" = some (.ref fMk)) (mz : mg "zip" = none) : FnOk P w K mg base CX0 (k + 5) f fd ["board", "state"] (spFed K C fedF) := by
  have GMk : FnOk P w K mg base CX0 (k + 1) fMk fdMk ["names", "marks"] (spMarked K) := ok_marked FMk mz
  refine F.ok scFed (fun vs H Q E h => ?_) (fun cdv A outer s H vs Q E hr h => ?_)
  · obtain ⟨pb, st, b, on, u, rfl, _⟩ := h
    rfl
  · obtain ⟨pb, st, b, on, u, rfl, hB, ok, few, ⟨tt, h1, h2, h3⟩, q⟩ := h
    have hr1 : Room (k + 1) _ := hr.mono (by omega)
    have hr3 : Room (k + 3) _ := hr.mono (by omega)
    refine ⟨_, pss_one (ps_ret (pe_call GMk hr1 (by rfl) gMk FMk.kp bMk .nil pass0 (pa_cons (pe_fld (pv 0) rfl) (pa_cons (pe_meth (pe_make M.make GI hr (by rfl) M.mgN bI .nil pass0 (pa_cons (pv 0) pa_nil)) TN.cl mN GN hr3 bN .nil pass0 (pa_cons (pe_ix ix_tup (pv 1) pe_int (fun _ _ => rfl)) pa_nil)) pa_nil)))), ?_⟩
    obtain ⟨dxb, fsb, tn, ts, tr, tl, tc, tm, xr, xl, xc, hpb, fB, _⟩ := id hB
    obtain ⟨_, nd, l2, l16⟩ := areNm_names ok.nodes
    refine ⟨_, rfl, pb, C, dxb, fsb, _, rfl, hpb, T.cl, T.nN, fB.ln, _, rfl, fun x dx nx ndx nex => ?_⟩
    have s0 := same_mut (o := .ins N dx []) (same_upd (o := .own x) ndx) nx
    refine ⟨x, dx, pb, H, b, rfl, upd_same, nx, s0, hB, ok, few, fun H1 s1 hN => ⟨rfl, ?_⟩⟩
    obtain ⟨dx2, fs2, ca, ba, la, xc2, xb2, xl2, hp2, fN2⟩ := id hN
    refine ⟨x, dx2, fs2, rfl, hp2, fN2.only _ (by decide +kernel), _, rfl, st, _, 0, _, rfl, rfl, Same.sqt s1 h1, rfl, x, tt, b, on, rfl, hN, ok, .inr (Same.sqt s1 h2), h3, fun H2 o s2 no ho => ?_⟩
    refine ⟨tn, o, b.nodes, fedM b on, rfl, .inr (Same.sqt (s1.trans s2) fB.hn), ho, by unfold fedM; rw [List.length_map], by omega, fun H3 o3 s3 no3 ho3 => ?_⟩
    rw [fedM_filter] at ho3
    exact q H3 o3 ((s1.trans s2).trans s3) ((s1.trans s2).free no3) ho3
theorem ok_feeds {f fI fN fA fMk C N sp sg : Addr} {mc : Value} {fd fdI fdN fdMk : FuncData} {k : Nat} (F : Fun K "feeds" "feeds" sFeeds f fd) (T : BTxt K mg C mc sp sg) (TN : NTxt K N) (M : NetM K mg N fI fA) (bI : Binds K fdI ["self", "board"] [])
    (GI : FnOk P w K mg base CX0 (k + 3) fI fdI ["self", "board"] (spNetI K C N)) (mN : Meth K N "feeding_nodes" fN) (bN : Binds K fdN ["self", "movers"] []) (GN : FnOk P w K mg base CX0 (k + 3) fN fdN ["self", "movers"] (spFedN K N feedM))
    (FMk : Fun K "marked" "marked" sMarked fMk fdMk) (bMk : Binds K fdMk ["names", "marks"] []) (gMk : mg "marked" = some (.ref fMk)) (mz : mg "zip" = none) : FnOk P w K mg base CX0 (k + 5) f fd ["board", "state"] (spFed K C feedF) := by
  have GMk : FnOk P w K mg base CX0 (k + 1) fMk fdMk ["names", "marks"] (spMarked K) := ok_marked FMk mz
  refine F.ok scFeeds (fun vs H Q E h => ?_) (fun cdv A outer s H vs Q E hr h => ?_)
  · obtain ⟨pb, st, b, on, u, rfl, _⟩ := h
    rfl
  · obtain ⟨pb, st, b, on, u, rfl, hB, ok, few, ⟨tt, h1, h2, h3⟩, q⟩ := h
    have hr1 : Room (k + 1) _ := hr.mono (by omega)
    have hr3 : Room (k + 3) _ := hr.mono (by omega)
    refine ⟨_, pss_one (ps_ret (pe_call GMk hr1 (by rfl) gMk FMk.kp bMk .nil pass0 (pa_cons (pe_fld (pv 0) rfl) (pa_cons (pe_meth (pe_make M.make GI hr (by rfl) M.mgN bI .nil pass0 (pa_cons (pv 0) pa_nil)) TN.cl mN GN hr3 bN .nil pass0 (pa_cons (pe_ix ix_tup (pv 1) pe_int (fun _ _ => rfl)) pa_nil)) pa_nil)))), ?_⟩
    obtain ⟨dxb, fsb, tn, ts, tr, tl, tc, tm, xr, xl, xc, hpb, fB, _⟩ := id hB
    obtain ⟨_, nd, l2, l16⟩ := areNm_names ok.nodes
    refine ⟨_, rfl, pb, C, dxb, fsb, _, rfl, hpb, T.cl, T.nN, fB.ln, _, rfl, fun x dx nx ndx nex => ?_⟩
    have s0 := same_mut (o := .ins N dx []) (same_upd (o := .own x) ndx) nx
    refine ⟨x, dx, pb, H, b, rfl, upd_same, nx, s0, hB, ok, few, fun H1 s1 hN => ⟨rfl, ?_⟩⟩
    obtain ⟨dx2, fs2, ca, ba, la, xc2, xb2, xl2, hp2, fN2⟩ := id hN
    refine ⟨x, dx2, fs2, rfl, hp2, fN2.only _ (by decide +kernel), _, rfl, st, _, 0, _, rfl, rfl, Same.sqt s1 h1, rfl, x, tt, b, on, rfl, hN, ok, .inr (Same.sqt s1 h2), h3, fun H2 o s2 no ho => ?_⟩
    refine ⟨tn, o, b.nodes, feedM b on, rfl, .inr (Same.sqt (s1.trans s2) fB.hn), ho, by unfold feedM; rw [List.length_map], by omega, fun H3 o3 s3 no3 ho3 => ?_⟩
    rw [feedM_filter] at ho3
    exact q H3 o3 ((s1.trans s2).trans s3) ((s1.trans s2).free no3) ho3
def spShort (K : PySem.W.Frag) (C : Addr) : Sp := fun vs H Q _ => ∃ (pb st : Addr) (b : Bd) (on : List Bool) (u : Bool), vs = [.ref pb, .ref st] ∧ BoardAt K C H pb b ∧ b.Ok ∧ Few b ∧ StAt K H st b on u ∧ ∀ H', Same H H' → Q (.bl (shortF b on)) H'
theorem ok_short {f fI fN fA C N sp sg : Addr} {mc : Value} {fd fdI fdN : FuncData} {k : Nat} (F : Fun K "is_short" "is_short" sIsShort f fd) (T : BTxt K mg C mc sp sg) (TN : NTxt K N) (M : NetM K mg N fI fA) (bI : Binds K fdI ["self", "board"] [])
    (GI : FnOk P w K mg base CX0 (k + 3) fI fdI ["self", "board"] (spNetI K C N)) (mN : Meth K N "fed_nodes" fN) (bN : Binds K fdN ["self", "movers"] []) (GN : FnOk P w K mg base CX0 (k + 3) fN fdN ["self", "movers"] (spFedN K N fedM)) :
    FnOk P w K mg base CX0 (k + 5) f fd ["board", "state"] (spShort K C) := by
  obtain ⟨tM, gM⟩ := M.gM
  refine F.ok scShort (fun vs H Q E h => ?_) (fun cdv A outer s H vs Q E hr h => ?_)
  · obtain ⟨pb, st, b, on, u, rfl, _⟩ := h
    rfl
  · obtain ⟨pb, st, b, on, u, rfl, hB, ok, few, ⟨tt, h1, h2, h3⟩, q⟩ := h
    have hr3 : Room (k + 3) _ := hr.mono (by omega)
    refine ⟨_, pss_one (ps_ret (pe_ix ix_list (pe_meth (pe_make M.make GI hr (by rfl) M.mgN bI .nil pass0 (pa_cons (pv 0) pa_nil)) TN.cl mN GN hr3 bN .nil pass0 (pa_cons (pe_ix ix_tup (pv 1) pe_int (fun _ _ => rfl)) pa_nil)) (pe_glob (v := .int 1) (by rfl) gM ⟨_, rfl⟩) (fun _ _ => rfl))), ?_⟩
    obtain ⟨_, z1, _⟩ := nodes01 ok
    refine ⟨_, rfl, fun x dx nx ndx nex => ?_⟩
    have s0 := same_mut (o := .ins N dx []) (same_upd (o := .own x) ndx) nx
    refine ⟨x, dx, pb, H, b, rfl, upd_same, nx, s0, hB, ok, few, fun H1 s1 hN => ⟨rfl, ?_⟩⟩
    obtain ⟨dx2, fs2, ca, ba, la, xc2, xb2, xl2, hp2, fN2⟩ := id hN
    refine ⟨x, dx2, fs2, rfl, hp2, fN2.only _ (by decide +kernel), _, rfl, st, _, 0, _, rfl, rfl, Same.sqt s1 h1, rfl, x, tt, b, on, rfl, hN, ok, .inr (Same.sqt s1 h2), h3, fun H2 o s2 no ho => ?_⟩
    refine ⟨o, _, 1, .bl (shortF b on), rfl, rfl, sq ho, atI_nat (j := 1) ?_, q H2 (s1.trans s2)⟩
    unfold fedM
    rw [List.getElem?_map, List.getElem?_map, z1]
    rfl
/-! ### _law_are_strings -/
theorem strsL_dp {K : PySem.W.Frag} {H : Hp} : ∀ xs : List Str, DpAll K H (xs.map V.str) (xs.map PyData.str)
  | [] => .nil
  | x :: xs => .cons (.str x) (strsL_dp xs)
theorem strsL_lay : ∀ xs : List Str, (∀ z ∈ xs, PyData.strOk z = true) → PyData.canLayAll0 (xs.map PyData.str) = true
  | [], _ => rfl
  | x :: xs, h => by
    show (PyData.canLay0 (.str x) && PyData.canLayAll0 (xs.map PyData.str)) = true
    rw [strsL_lay xs fun z hz => h z (List.mem_cons_of_mem _ hz), Bool.and_true]
    exact h x List.mem_cons_self
theorem strsL_depth : ∀ xs : List Str, PyData.depthAll (xs.map PyData.str) = 0
  | [] => rfl
  | x :: xs => by
    show max (PyData.depth (.str x)) (PyData.depthAll (xs.map PyData.str)) = 0
    rw [strsL_depth xs]
    rfl
theorem strsL_shaped {xs : List Str} (h : ∀ z ∈ xs, PyData.strOk z = true) : SeqAt.shaped (.list (xs.map PyData.str)) = true := by
  show (PyData.canLayAll0 (xs.map PyData.str) && decide (PyData.depthAll (xs.map PyData.str) + 1 ≤ 64)) = true
  rw [strsL_lay xs h, strsL_depth xs]
  rfl
theorem ne_strsL {K : PySem.W.Frag} {H : Hp} {a b : Addr} {xs : List Str} {Q : VK} (h : ∀ z ∈ xs, PyData.strOk z = true) (h1 : SqL K H a (xs.map V.str)) (h2 : SqL K H b (xs.map V.str)) (q : Q (.bl false) H) : rNeD K (.ref a) (.ref b) H Q := by
  have hs := strsL_shaped h
  refine ⟨_, _, .lst h1 (strsL_dp xs), .lst h2 (strsL_dp xs), hs, hs, ?_⟩
  have e : PyData.eqv (.list (xs.map PyData.str)) (.list (xs.map PyData.str)) = true := SeqAt.eqv_refl _ (SeqAt.canLay_of_shaped hs)
  rw [e]
  exact q
theorem bt_list : bootBuiltins "list" = some (.type "list") := by decide +kernel
theorem bt_str : bootBuiltins "str" = some (.type "str") := by decide +kernel
def spAreS (K : PySem.W.Frag) : Sp := fun vs H Q _ => ∃ (a e : Addr) (zs : List Str), vs = [.ref a, .ref e] ∧ H a = some (.lst (zs.map V.str)) ∧ H e = some (.lst (zs.map V.str)) ∧ (∀ z ∈ zs, PyData.strOk z = true) ∧ zs.length ≤ 1000 ∧ ∀ H', Same H H' → Q (.bl true) H'
theorem scAreS : FnScope ["actual", "expected", "word"] ["actual", "expected"] (defScope sLawAreStrings) := ⟨rfl, rfl, rfl, by decide +kernel, rfl, by decide +kernel, by decide +kernel⟩
theorem ok_areS {f : Addr} {fd : FuncData} {k : Nat} (F : Fun K "_law_are_strings" "_law_are_strings" sLawAreStrings f fd) (mi : mg "isinstance" = none) (ml : mg "list" = none) (ms : mg "str" = none) (ma : mg "all" = none) : FnOk P w K mg base CX0 (k + 1) f fd ["actual", "expected"] (spAreS K) := by
  refine F.ok scAreS (fun vs H Q E h => ?_) (fun cdv A outer s H vs Q E hr h => ?_)
  · obtain ⟨a, e, zs, rfl, _⟩ := h
    rfl
  · obtain ⟨a, e, zs, rfl, ha, he, hz, hl, q⟩ := h
    refine ⟨_, pss_cons (ps_if (PW.pt (pw_or (pt_not (pt_val (pe_callB call_isi (by rfl) mi (by decide +kernel) (pa_cons (pv 0) (pa_cons (pe_bltn (v := .ty "list") (by rfl) ml bt_list rfl) pa_nil))))) (pw_or1 (pt_cmpR (op_neD hr.units) (pv 0) (pv 1) (nomark _))))) (pss_one (ps_ret pe_bl)) pss_nil)
      (pss_one (ps_ret (pe_callB (cr_all rfl) (by rfl) ma (by decide +kernel) (pa_cons (pe_lc (own := [("word", 2)]) (g := gName 2) (tt := tYes) (te := tCB (rIsi K) (tCons (tVar 2) (tCons (tC (.ty "str")) tNil))) rfl scAreS.nd (pi_list (pv 0)) (blkOk_by (N := ["actual", "expected", "word"]) (sc := defScope sLawAreStrings) (by decide +kernel))
        (fun _ _ _ _ _ => pg_name (i := 2) scAreS.nd rfl (Or.inl rfl)) (fun _ _ _ _ _ => pts_nil) (fun _ _ _ _ _ => pe_callB call_isi (by rfl) mi (by decide +kernel) (pa_cons (pv 2) (pa_cons (pe_bltn (v := .ty "str") (by rfl) ms bt_str rfl) pa_nil)))) pa_nil)))), ?_⟩
    refine ⟨_, rfl, _, _, .type "list", .type "list", true, rfl, .ty "list", .base (.lst ha), kit_ty (by decide +kernel), _, rfl, ?_⟩
    refine iteF ?_
    refine ⟨_, rfl, _, rfl, ne_strsL hz (sq ha) (sq he) ⟨_, rfl, ?_⟩⟩
    refine iteF ?_
    refine ⟨_, rfl, a, rfl, ⟨_, sq ha⟩, fun D nD => ?_⟩
    refine lc_list (K := K) (a := a) (xs := zs.map V.str) (fun i G => Same H G ∧ G D = some (.lst ((List.replicate i true).map V.bl))) ⟨same_upd nD, upd_same⟩ (fun i G _ h => sq (h.1 _ _ ha)) ?_ ?_
    · rintro i v G hi ⟨sm, hd⟩
      have hl2 := (List.getElem?_eq_some_iff.mp hi).1
      rw [List.length_map] at hl2
      rw [List.getElem?_map] at hi
      obtain ⟨z, _, rfl⟩ := Option.map_eq_some_iff.mp hi
      refine ⟨rfl, ?_⟩
      refine yesT ?_
      refine ⟨_, rfl, _, _, .type "str", .type "str", true, rfl, .ty "str", .base (.str z), kit_ty (by decide +kernel), ?_⟩
      refine ⟨_, hd, ?_, same_mut sm nD, ?_⟩
      · rw [List.length_map, List.length_replicate]
        exact szlt (by omega)
      · rw [upd_same, List.replicate_succ', map_snoc]
    · rintro G ⟨sm, hd⟩
      refine ⟨D, _, rfl, sq hd, ?_⟩
      have e1 : (List.replicate (zs.map V.str).length true).all id = true := by simp
      rw [e1]
      exact q G sm
/-! ### the law of k13 -/
theorem bt_bool : bootBuiltins "bool" = some (.type "bool") := by decide +kernel
theorem path_trans {ps : List (Str × Str)} {x y z : Str} (h1 : Path ps x y) (h2 : Path ps y z) : Path ps x z := by
  induction h2 with
  | base => exact h1
  | step _ e ih => exact .step ih e
theorem path_swap {ps : List (Str × Str)} {x y : Str} (h : Path ps x y) : Path (ps.map Prod.swap) y x := by
  induction h with
  | base => exact .base
  | @step u v _ e ih => exact path_trans (.step .base (List.mem_map.mpr ⟨(u, v), e, rfl⟩)) ih
theorem swap_swap (ps : List (Str × Str)) : (ps.map Prod.swap).map Prod.swap = ps := by
  rw [List.map_map]
  have : (Prod.swap ∘ Prod.swap : Str × Str → Str × Str) = id := by
    funext p
    rfl
  rw [this, List.map_id]
theorem short_feed {b : Bd} (ok : b.Ok) (on : List Bool) : shortF b on = decide (n0 b ∈ feedF b on) := by
  obtain ⟨m0, _, m1, _⟩ := n0_at ok
  unfold shortF fedF feedF
  refine decide_eq_decide.mpr ?_
  have hin := pairsF_in ok (on := on) (i := b.contacts.length)
  have hin2 : ∀ p ∈ (pairsF b on b.contacts.length).map Prod.swap, p.2 ∈ b.nodes := by
    intro p hp
    obtain ⟨r, hr, rfl⟩ := List.mem_map.mp hp
    exact (hin r hr).1
  rw [reachF_mem m0 (fun p hp => (hin p hp).2), reachF_mem m1 hin2]
  constructor
  · exact path_swap
  · intro h
    have := path_swap h
    rwa [swap_swap] at this
theorem node_loop {K : PySem.W.Frag} {H1 : Hp} {n D o : Addr} {zs R : List Str} {vs : List Nat} {σ : L2.St} {Qd : Hp → Prop} {iv id : Nat} (hn : H1 n = some (.lst (zs.map V.str))) (ho : H1 o = some (.lst (R.map V.str))) (hl : zs.length ≤ 1000) (nD : H1 D = none)
    (hw : ∀ x : V, wipe ((wipe σ vs).set iv (some x)) vs = wipe σ vs) (g1 : ∀ x : V, ((wipe σ vs).set iv (some x))[iv]? = some (some x)) (gd : ∀ x : V, ((wipe σ vs).set iv (some x))[id]? = some (some (.ref o)))
    (hq : ∀ H2, Same H1 H2 → H2 D = some (.lst ((zs.filter fun z => decide (z ∈ R)).map V.str)) → Qd H2) :
    ∃ W : Nat → Nat → Hp → Prop, (∃ m, W 0 m (upd H1 D (.lst []))) ∧ ∀ i m H, W i m H →
      ((Itl K n).stop i H ∧ Qd H) ∨ ((Itl K n).go i H ∧ ∃ Nx : Hp → Prop, (∀ H', Nx H' → ∃ m', m' < m ∧ W (i + 1) m' H') ∧ ∀ x H', (Itl K n).yld i H x H' → gName iv x (wipe σ vs) H' fun σ2 H2 => wipe σ2 vs = wipe σ vs ∧ tTest (tOp (rIn K false) (tVar iv) (tVar id)) σ2 H2 fun b H3 =>
        if b = true then tVar iv σ2 H3 fun y H4 => ∃ acc, H4 D = some (.lst acc) ∧ acc.length < sizeLine ∧ Nx (upd H4 D (.lst (acc ++ [y]))) else Nx H3) := by
  refine lc_list (K := K) (a := n) (xs := zs.map V.str) (fun i G => Same H1 G ∧ G D = some (.lst (((zs.take i).filter fun z => decide (z ∈ R)).map V.str))) ⟨same_upd nD, upd_same⟩ (fun i G _ h => sq (h.1 _ _ hn)) ?_ ?_
  · rintro i v G hi ⟨sm, hd⟩
    have hl2 := (List.getElem?_eq_some_iff.mp hi).1
    rw [List.length_map] at hl2
    have hz : zs[i]? = some zs[i] := List.getElem?_eq_getElem hl2
    rw [List.getElem?_map, hz] at hi
    have ev : v = .str zs[i] := (Option.some.inj hi).symm
    subst ev
    refine ⟨hw _, _, g1 _, _, gd _, o, _, rfl, .inl (sq (sm _ _ ho)), rfl, flat_strs _, _, rfl, ?_⟩
    rw [if_neg Bool.false_ne_true, inV_str, List.take_add_one, hz, Option.toList_some, List.filter_append, List.map_append]
    refine ite2 (fun e => ?_) (fun e => ?_)
    · refine ⟨_, g1 _, _, hd, ?_, same_mut sm nD, ?_⟩
      · rw [List.length_map]
        have := List.length_filter_le (fun z => decide (z ∈ R)) (zs.take i)
        rw [List.length_take] at this
        exact szlt (by omega)
      · have e2 : [zs[i]].filter (fun z => decide (z ∈ R)) = [zs[i]] := by simp [of_decide_eq_true e]
        rw [upd_same, e2]
        rfl
    · refine ⟨sm, ?_⟩
      have e2 : [zs[i]].filter (fun z => decide (z ∈ R)) = [] := by simp [of_decide_eq_false (Bool.eq_false_iff.mpr e)]
      rw [e2, List.map_nil, List.append_nil]
      exact hd
  · rintro G ⟨sm, hd⟩
    rw [List.length_map, List.take_length] at hd
    exact hq G sm hd
def spLaw (K : PySem.W.Frag) : Sp := fun vs H Q _ => ∃ (a : Addr) (ns : List Int), vs = [.ref a] ∧ SqL K H a (ns.map V.int) ∧ ns.length ≤ 63 ∧ ∀ H', Q (.bl true) H'
theorem scLaw : FnScope ["script", "numbers", "spec", "board", "state", "pairs", "before", "behind", "blown", "one", "other", "short", "pair", "node"] ["script"] (defScope sLaw) := ⟨rfl, rfl, rfl, by decide +kernel, rfl, by decide +kernel, by decide +kernel⟩
structure Txt (mg : Str → Option Value) : Prop where
  abs : mg "abs" = none
  int : mg "int" = none
  range : mg "range" = none
  max : mg "max" = none
  list : mg "list" = none
  isi : mg "isinstance" = none
  bool : mg "bool" = none
  str : mg "str" = none
  zip : mg "zip" = none
theorem ok_law {f fN fB fM fS fP fR fF fG fH fA C : Addr} {fd fdN fdB fdM fdS fdP fdR fdF fdG fdH fdA : FuncData} (F : Fun K "law" "law" sLaw f fd) (X : Txt mg)
    (FN : Fun K "_law_numbers" "_law_numbers" sLawNumbers fN fdN) (bN : Binds K fdN ["script", "many"] []) (gN : mg "_law_numbers" = some (.ref fN)) (GN : FnOk P w K mg base CX0 2 fN fdN ["script", "many"] (spNumbers K))
    (FB : Fun K "_law_board" "_law_board" sLawBoard fB fdB) (bB : Binds K fdB ["numbers", "big"] []) (gB : mg "_law_board" = some (.ref fB)) (GB : FnOk P w K mg base CX0 3 fB fdB ["numbers", "big"] (spBoard K))
    (FM : Fun K "_law_made" "_law_made" sLawMade fM fdM) (bM : Binds K fdM ["spec"] []) (gM : mg "_law_made" = some (.ref fM)) (GM : FnOk P w K mg base CX0 6 fM fdM ["spec"] (spMade K C))
    (FS : Fun K "_law_state" "_law_state" sLawState fS fdS) (bS : Binds K fdS ["spec", "numbers", "at"] []) (gS : mg "_law_state" = some (.ref fS)) (GS : FnOk P w K mg base CX0 5 fS fdS ["spec", "numbers", "at"] (spState K))
    (FP : Fun K "_law_pairs" "_law_pairs" sLawPairs fP fdP) (bP : Binds K fdP ["spec", "on"] []) (gP : mg "_law_pairs" = some (.ref fP)) (GP : FnOk P w K mg base CX0 3 fP fdP ["spec", "on"] (spPairs K))
    (FR : Fun K "_law_reach" "_law_reach" sLawReach fR fdR) (bR : Binds K fdR ["spec", "pairs", "start"] []) (gR : mg "_law_reach" = some (.ref fR)) (GR : FnOk P w K mg base CX0 1 fR fdR ["spec", "pairs", "start"] (spReach K))
    (FF : Fun K "fed" "fed" sFed fF fdF) (bF : Binds K fdF ["board", "state"] []) (gF : mg "fed" = some (.ref fF)) (GF : FnOk P w K mg base CX0 5 fF fdF ["board", "state"] (spFed K C fedF))
    (FG : Fun K "feeds" "feeds" sFeeds fG fdG) (bG : Binds K fdG ["board", "state"] []) (gG : mg "feeds" = some (.ref fG)) (GG : FnOk P w K mg base CX0 5 fG fdG ["board", "state"] (spFed K C feedF))
    (FH : Fun K "is_short" "is_short" sIsShort fH fdH) (bH : Binds K fdH ["board", "state"] []) (gH : mg "is_short" = some (.ref fH)) (GH : FnOk P w K mg base CX0 5 fH fdH ["board", "state"] (spShort K C))
    (FA : Fun K "_law_are_strings" "_law_are_strings" sLawAreStrings fA fdA) (bA : Binds K fdA ["actual", "expected"] []) (gA : mg "_law_are_strings" = some (.ref fA)) (GA : FnOk P w K mg base CX0 1 fA fdA ["actual", "expected"] (spAreS K)) :
    FnOk P w K mg base CX0 7 f fd ["script"] (spLaw K) := by
  refine F.ok (k := 6) scLaw (fun vs H Q E h => ?_) (fun cdv A outer s H vs Q E hr h => ?_)
  · obtain ⟨a, ns, rfl, _⟩ := h
    rfl
  · obtain ⟨a, cs, rfl, ha, h63, q⟩ := h
    refine ⟨_, (pss_cons (ps_set (i := 1) scLaw.nd rfl (.inl rfl) (pe_call GN (hr.mono (by decide)) (by rfl) gN FN.kp bN .nil pass0 (pa_cons (pv 0) (pa_cons pe_int pa_nil))))
      (pss_cons (ps_set (i := 2) scLaw.nd rfl (.inl rfl) (pe_call GB (hr.mono (by decide)) (by rfl) gB FB.kp bB .nil pass0 (pa_cons (pv 1) (pa_cons pe_bl pa_nil))))
      (pss_cons (ps_set (i := 3) scLaw.nd rfl (.inl rfl) (pe_call GM hr (by rfl) gM FM.kp bM .nil pass0 (pa_cons (pv 2) pa_nil)))
      (pss_cons (ps_set (i := 4) scLaw.nd rfl (.inl rfl) (pe_call GS (hr.mono (by decide)) (by rfl) gS FS.kp bS .nil pass0 (pa_cons (pv 2) (pa_cons (pv 1) (pa_cons pe_int pa_nil)))))
      (pss_cons (ps_set (i := 5) scLaw.nd rfl (.inl rfl) (pe_call GP (hr.mono (by decide)) (by rfl) gP FP.kp bP .nil pass0 (pa_cons (pv 2) (pa_cons (pe_ix ix_tup (pv 4) pe_int (fun _ _ => rfl)) pa_nil))))
      (pss_cons (ps_set (i := 6) scLaw.nd rfl (.inr rfl) (pe_call GR (hr.mono (by decide)) (by rfl) gR FR.kp bR .nil pass0 (pa_cons (pv 2) (pa_cons (pv 5) (pa_cons (pe_ix ix_list (pe_ix ix_list (pv 2) pe_int (fun _ _ => rfl)) pe_int (fun _ _ => rfl)) pa_nil)))))
      (pss_cons (ps_set (i := 7) scLaw.nd rfl (.inr rfl) (pe_call GR (hr.mono (by decide)) (by rfl) gR FR.kp bR .nil pass0 (pa_cons (pv 2) (pa_cons (pe_lc (own := [("pair", 12)]) (g := (gName 12)) (tt := tYes) (te := tLst (tCons (tOp (rIxL K) (tVar 12) (tC (.int 1))) (tCons (tOp (rIxL K) (tVar 12) (tC (.int 0))) tNil))) rfl scLaw.nd (pi_list (pv 5)) (blkOk_by (N := ["script", "numbers", "spec", "board", "state", "pairs", "before", "behind", "blown", "one", "other", "short", "pair", "node"]) (sc := defScope sLaw) (by decide +kernel)) (fun _ _ _ _ _ => (pg_name (i := 12) scLaw.nd rfl (Or.inl rfl))) (fun _ _ _ _ _ => pts_nil) (fun _ _ _ _ _ => (pe_lst (pa_cons (pe_ix ix_list (pv 12) pe_int (fun _ _ => rfl)) (pa_cons (pe_ix ix_list (pv 12) pe_int (fun _ _ => rfl)) pa_nil))))) (pa_cons (pe_ix ix_list (pe_ix ix_list (pv 2) pe_int (fun _ _ => rfl)) pe_int (fun _ _ => rfl)) pa_nil)))))
      (pss_cons (ps_for PassesOwn.never rfl (pi_list (pe_lst (pa_cons (pe_ix ix_tup (pv 4) pe_int (fun _ _ => rfl)) (pa_cons (pe_not (pe_ix ix_tup (pv 4) pe_int (fun _ _ => rfl))) (pa_cons (pe_ix ix_tup (pv 4) pe_int (fun _ _ => rfl)) pa_nil))))) (pg_name (i := 8) scLaw.nd rfl (.inl rfl)) (pss_cons (ps_set (i := 9) scLaw.nd rfl (.inl rfl) (pe_call GF (hr.mono (by decide)) (by rfl) gF FF.kp bF .nil pass0 (pa_cons (pv 3) (pa_cons (pe_tup (pa_cons (pe_ix ix_tup (pv 4) pe_int (fun _ _ => rfl)) (pa_cons (pv 8) pa_nil))) pa_nil))))
      (pss_cons (ps_set (i := 10) scLaw.nd rfl (.inl rfl) (pe_call GG (hr.mono (by decide)) (by rfl) gG FG.kp bG .nil pass0 (pa_cons (pv 3) (pa_cons (pe_tup (pa_cons (pe_ix ix_tup (pv 4) pe_int (fun _ _ => rfl)) (pa_cons (pv 8) pa_nil))) pa_nil))))
      (pss_cons (ps_set (i := 11) scLaw.nd rfl (.inl rfl) (pe_call GH (hr.mono (by decide)) (by rfl) gH FH.kp bH .nil pass0 (pa_cons (pv 3) (pa_cons (pe_tup (pa_cons (pe_ix ix_tup (pv 4) pe_int (fun _ _ => rfl)) (pa_cons (pv 8) pa_nil))) pa_nil))))
      (pss_cons (ps_if (pt_not (pt_val (pe_call GA (hr.mono (by decide)) (by rfl) gA FA.kp bA .nil pass0 (pa_cons (pv 9) (pa_cons (pe_lc (own := [("node", 13)]) (g := (gName 13)) (tt := tTest (tOp (rIn K false) (tVar 13) (tVar 6))) (te := tVar 13) rfl scLaw.nd (pi_list (pe_ix ix_list (pv 2) pe_int (fun _ _ => rfl))) (blkOk_by (N := ["script", "numbers", "spec", "board", "state", "pairs", "before", "behind", "blown", "one", "other", "short", "pair", "node"]) (sc := defScope sLaw) (by decide +kernel)) (fun _ _ _ _ _ => (pg_name (i := 13) scLaw.nd rfl (Or.inl rfl))) (fun _ _ _ _ _ => pts_one (pt_cmpR op_in_seq (pv 13) (pv 6) (by rfl))) (fun _ _ _ _ _ => (pv 13))) pa_nil))))) (pss_one (ps_ret pe_bl)) pss_nil)
      (pss_cons (ps_if (pt_not (pt_val (pe_call GA (hr.mono (by decide)) (by rfl) gA FA.kp bA .nil pass0 (pa_cons (pv 10) (pa_cons (pe_lc (own := [("node", 13)]) (g := (gName 13)) (tt := tTest (tOp (rIn K false) (tVar 13) (tVar 7))) (te := tVar 13) rfl scLaw.nd (pi_list (pe_ix ix_list (pv 2) pe_int (fun _ _ => rfl))) (blkOk_by (N := ["script", "numbers", "spec", "board", "state", "pairs", "before", "behind", "blown", "one", "other", "short", "pair", "node"]) (sc := defScope sLaw) (by decide +kernel)) (fun _ _ _ _ _ => (pg_name (i := 13) scLaw.nd rfl (Or.inl rfl))) (fun _ _ _ _ _ => pts_one (pt_cmpR op_in_seq (pv 13) (pv 7) (by rfl))) (fun _ _ _ _ _ => (pv 13))) pa_nil))))) (pss_one (ps_ret pe_bl)) pss_nil)
      (pss_cons (ps_if (PW.pt (pw_or (pt_not (pt_val (pe_callB call_isi (by rfl) X.isi (by decide +kernel) (pa_cons (pv 11) (pa_cons (pe_bltn (v := .ty "bool") (by rfl) X.bool bt_bool rfl) pa_nil))))) (pw_or (pt_cmpR op_ne (pv 11) (pe_cmpR op_in_seq (pe_ix ix_list (pe_ix ix_list (pv 2) pe_int (fun _ _ => rfl)) pe_int (fun _ _ => rfl)) (pv 6) (by rfl)) (nomark _)) (pw_or1 (pt_cmpR op_ne (pv 11) (pe_cmpR op_in_seq (pe_ix ix_list (pe_ix ix_list (pv 2) pe_int (fun _ _ => rfl)) pe_int (fun _ _ => rfl)) (pv 7) (by rfl)) (nomark _)))))) (pss_one (ps_ret pe_bl)) pss_nil)
      (pss_cons (ps_expr (pe_bm PySem.F.plainAttrs_list PySem.F.slot_list_append PySem.F.type_list_append mt_append (pv 9) (pa_cons (pe_ix ix_list (pe_ix ix_list (pv 2) pe_int (fun _ _ => rfl)) pe_int (fun _ _ => rfl)) pa_nil)))
      (pss_one (ps_expr (pe_bm PySem.F.plainAttrs_list PySem.F.slot_list_append PySem.F.type_list_append mt_append (pv 10) (pa_cons (pe_ix ix_list (pe_ix ix_list (pv 2) pe_int (fun _ _ => rfl)) pe_int (fun _ _ => rfl)) pa_nil))))))))))))
      (pss_one (ps_ret pe_bl)))))))))), ?_⟩
    refine ⟨_, rfl, a, cs, 260, rfl, ha, h63, by decide, fun H1 nA ns s1 nn1 hA lns hns => ?_⟩
    refine ⟨_, rfl, nA, ns, true, rfl, sq hA, hns, by omega, fun H2 p b s2 np hS ok few => ?_⟩
    refine ⟨_, rfl, p, b, rfl, hS, few, ok, fun H3 pb s3 npb hB => ?_⟩
    refine ⟨_, rfl, _, rfl, p, nA, 214, b, ns, rfl, hS.mono s3, few, ok, sq (s3 _ _ (s2 _ _ hA)), hns, by omega, fun H4 t tt on u s4 nt ht htt lon => ?_⟩
    obtain ⟨z0, z1, l16⟩ := nodes01 ok
    obtain ⟨n, sw, r, l, c, xr, xl, xc, h0, h1, h2, h3, h4, h5, h6, h7, h8⟩ := id hS
    have s34 := s3.trans s4
    have lp := pairsF_len b on b.contacts.length
    have c40 := ok.ct
    refine ⟨_, rfl, _, rfl, t, _, 0, _, rfl, rfl, st ht, rfl, p, tt, b, on, rfl, hS.mono s34, few, ok, .inr htt, lon, fun H5 o5 x5 s5 no5 ho5 hP => ?_⟩
    have s35 := s34.trans s5
    refine ⟨_, rfl, _, rfl, _, rfl, p, _, 0, _, rfl, rfl, sq (s35 _ _ h0), rfl, n, _, 0, _, rfl, rfl, sq (s35 _ _ h1), at_row z0, p, o5, b, x5, _, n0 b, rfl, hS.mono s35, l16, ho5, hP, by omega, fun H6 o6 s6 no6 ho6 => ?_⟩
    have s36 := s35.trans s6
    -- behind: the pairs turned
    refine ⟨_, rfl, _, rfl, o5, rfl, ⟨_, sq (s6 _ _ ho5)⟩, fun D nD => ?_⟩
    refine lc_list (K := K) (a := o5) (xs := x5) (fun i G => ∃ ys, Same H6 G ∧ G D = some (.lst ys) ∧ PairL G ys (((pairsF b on b.contacts.length).take i).map Prod.swap) ∧ ∀ v ∈ ys, v ≠ .ref D) ⟨[], same_upd nD, upd_same, True.intro, fun v hv => by cases hv⟩ (fun i G _ ⟨_, h, _⟩ => sq (h _ _ (s6 _ _ ho5))) ?_ ?_
    · rintro i v G hi ⟨ys, sm, hd, hY, hne⟩
      obtain ⟨tq, pq, rfl, hq1, hq2⟩ := (hP.mono (s6.trans sm)).at hi
      have ly := hY.len
      rw [List.length_map, List.length_take] at ly
      refine ⟨rfl, ?_⟩
      refine yesT ?_
      refine ⟨_, rfl, tq, _, 1, _, rfl, rfl, sq hq1, rfl, _, rfl, tq, _, 0, _, rfl, rfl, sq hq1, rfl, by show 2 ≤ sizeLine; decide, fun t2 nt2 => ?_⟩
      have st2 := same_upd (o := .lst [.str pq.2, .str pq.1]) nt2
      have ne : D ≠ t2 := ne_of_none hd nt2
      refine ⟨_, st2 _ _ hd, szlt (by omega), ys ++ [.ref t2], same_mut (sm.trans st2) nD, upd_same, ?_⟩
      rw [List.take_add_one, hq2, List.map_append]
      have nev : ∀ v ∈ ys ++ [V.ref t2], v ≠ .ref D := fun v hv => by
        rcases List.mem_append.mp hv with hv | hv
        · exact hne v hv
        · rw [List.mem_singleton.mp hv]
          exact fun e => ne (V.ref.inj e).symm
      refine ⟨?_, nev⟩
      exact PairL.snoc (p := (pq.2, pq.1)) (by rw [upd_ne ne.symm]; exact upd_same) (PairL.upd hne (hY.mono st2))
    · rintro G ⟨ys, sm, hd, hY, _⟩
      have lx := hP.len
      rw [lx, List.take_length] at hY
      have s6G := s36.trans sm
      refine ⟨_, rfl, p, _, 0, _, rfl, rfl, sq (s6G _ _ h0), rfl, n, _, 1, _, rfl, rfl, sq (s6G _ _ h1), at_row z1, p, D, b, ys, _, n1 b, rfl, hS.mono s6G, l16, hd, hY, by rw [List.length_map]; omega, fun H7 o7 s7 no7 ho7 => ?_⟩
      have s3G := s6G.trans s7
      have s4G := (s5.trans s6).trans (sm.trans s7)
      have hB7 := hB.mono (s4.trans s4G)
      have ht7 := s4G _ _ ht
      have htt7 := Same.sqt s4G htt
      have ho6' := (sm.trans s7) _ _ ho6
      have hS0 := s3G _ _ h0
      have hS1 := s3G _ _ h1
      have sm0 := sm
      clear hP hY hd ho5 hS hA
      -- the loop
      refine ⟨_, rfl, t, _, 1, _, rfl, rfl, st ht7, rfl, _, rfl, t, _, 1, _, rfl, rfl, st ht7, rfl, _, rfl, _, rfl, t, _, 1, _, rfl, rfl, st ht7, rfl, by show 3 ≤ sizeLine; decide, fun ol nol => ?_⟩
      have sl := same_upd (o := .lst [.bl (u || shortF b on), .bl (!(u || shortF b on)), .bl (u || shortF b on)]) nol
      have hlx := upd_same (H := H7) (a := ol) (o := .lst [.bl (u || shortF b on), .bl (!(u || shortF b on)), .bl (u || shortF b on)])
      generalize (upd H7 ol (.lst [.bl (u || shortF b on), .bl (!(u || shortF b on)), .bl (u || shortF b on)])) = Hl at sl hlx ⊢
      refine ⟨ol, rfl, ⟨_, sq hlx⟩, for_list (K := K) (a := ol) (xs := [.bl (u || shortF b on), .bl (!(u || shortF b on)), .bl (u || shortF b on)]) (fun i σ G => (∃ z8 z9 z10 z11 : Option V, σ = [some (.ref a), some (.ref nA), some (.ref p), some (.ref pb), some (.ref t), some (.ref o5), some (.ref o6), some (.ref o7), z8, z9, z10, z11, none, none]) ∧ Same Hl G)
        ⟨⟨none, none, none, none, rfl⟩, Same.refl _⟩ (fun i σ G _ ⟨_, sm⟩ => sq (sm _ _ hlx)) ?_ ?_⟩
      · rintro i v σ G hi ⟨⟨z8, z9, z10, z11, rfl⟩, sm⟩
        obtain ⟨x, rfl⟩ : ∃ x : Bool, v = .bl x := by
          have hv := List.mem_of_getElem? hi
          simp only [List.mem_cons, List.not_mem_nil, or_false] at hv
          rcases hv with e | e | e <;> exact ⟨_, e⟩
        have g0 := sl.trans sm
        obtain ⟨nmN, ndN, _, _⟩ := areNm_names ok.nodes
        have okS : ∀ {f : Str → Bool}, ∀ z ∈ b.nodes.filter f, PyData.strOk z = true := fun z hz => (nmN z (List.mem_filter.mp hz).1).2.2.ok
        have lenS : ∀ {f : Str → Bool}, (b.nodes.filter f).length ≤ 1000 := fun {f} => Nat.le_trans (List.length_filter_le _ _) (by omega)
        -- fed
        refine ⟨_, rfl, _, rfl, t, _, 0, _, rfl, rfl, st (g0 _ _ ht7), rfl, _, rfl, by show 2 ≤ sizeLine; decide, fun t1 nt1 => ?_⟩
        have e1 := same_upd (o := .tup [.ref tt, .bl x]) nt1
        refine ⟨pb, t1, b, on, x, rfl, hB7.mono (g0.trans e1), ok, few, ⟨tt, st upd_same, Same.sqt (g0.trans e1) htt7, lon⟩, fun G1 w1 q1 nw1 hw1 => ?_⟩
        have g1 := g0.trans (e1.trans q1)
        have nw1' := (sm.trans e1).free nw1
        -- feeds
        refine ⟨_, rfl, _, rfl, t, _, 0, _, rfl, rfl, st (g1 _ _ ht7), rfl, _, rfl, by show 2 ≤ sizeLine; decide, fun t2 nt2 => ?_⟩
        have e2 := same_upd (o := .tup [.ref tt, .bl x]) nt2
        refine ⟨pb, t2, b, on, x, rfl, hB7.mono (g1.trans e2), ok, few, ⟨tt, st upd_same, Same.sqt (g1.trans e2) htt7, lon⟩, fun G2 w2 q2 nw2 hw2 => ?_⟩
        have g2 := g1.trans (e2.trans q2)
        have nw2' := (sm.trans ((e1.trans q1).trans e2)).free nw2
        -- is_short
        refine ⟨_, rfl, _, rfl, t, _, 0, _, rfl, rfl, st (g2 _ _ ht7), rfl, _, rfl, by show 2 ≤ sizeLine; decide, fun t3 nt3 => ?_⟩
        have e3 := same_upd (o := .tup [.ref tt, .bl x]) nt3
        refine ⟨pb, t3, b, on, x, rfl, hB7.mono (g2.trans e3), ok, few, ⟨tt, st upd_same, Same.sqt (g2.trans e3) htt7, lon⟩, fun G3 q3 => ?_⟩
        have g3 := g2.trans (e3.trans q3)
        have hw1' := ((e2.trans q2).trans (e3.trans q3)) _ _ hw1
        have hw2' := (e3.trans q3) _ _ hw2
        have sG3 : Same Hl G3 := sm.trans (((e1.trans q1).trans (e2.trans q2)).trans (e3.trans q3))
        -- the first list
        refine ⟨_, rfl, _, rfl, p, _, 0, _, rfl, rfl, sq (g3 _ _ hS0), rfl, n, rfl, ⟨_, sq (g3 _ _ hS1)⟩, fun D1 nD1 => ?_⟩
        refine node_loop (iv := 13) (id := 6) (R := fedF b on) (g3 _ _ hS1) (g3 _ _ (s7 _ _ (sm0 _ _ ho6))) (by omega) nD1 (fun _ => rfl) (fun _ => rfl) (fun _ => rfl) fun G4 q4 hD1 => ?_
        refine ⟨w1, D1, _, rfl, q4 _ _ hw1', hD1, okS, lenS, fun G5 q5 => ⟨_, rfl, ?_⟩⟩
        refine iteF ?_
        have g5 := g3.trans (q4.trans q5)
        -- the second one
        refine ⟨_, rfl, _, rfl, p, _, 0, _, rfl, rfl, sq (g5 _ _ hS0), rfl, n, rfl, ⟨_, sq (g5 _ _ hS1)⟩, fun D2 nD2 => ?_⟩
        refine node_loop (iv := 13) (id := 7) (R := feedF b on) (g5 _ _ hS1) (g5 _ _ ho7) (by omega) nD2 (fun _ => rfl) (fun _ => rfl) (fun _ => rfl) fun G6 q6 hD2 => ?_
        refine ⟨w2, D2, _, rfl, q6 _ _ (q5 _ _ (q4 _ _ hw2')), hD2, okS, lenS, fun G7 q7 => ⟨_, rfl, ?_⟩⟩
        refine iteF ?_
        have g7 := g5.trans (q6.trans q7)
        have ho6x := g7 _ _ (s7 _ _ (sm0 _ _ ho6))
        have ho7x := g7 _ _ ho7
        -- short
        refine ⟨_, rfl, _, _, .type "bool", .type "bool", true, rfl, .ty "bool", .base (.bl _), kit_ty (by decide +kernel), _, rfl, ?_⟩
        refine iteF ?_
        refine ⟨_, rfl, _, rfl, p, _, 0, _, rfl, rfl, sq (g7 _ _ hS0), rfl, n, _, 1, _, rfl, rfl, sq (g7 _ _ hS1), at_row z1, _, rfl, o6, _, rfl, .inl (sq ho6x), rfl, flat_strs _, ?_⟩
        rw [if_neg Bool.false_ne_true, inV_str]
        refine ⟨rfl, _, rfl, ?_⟩
        have c1 : (!decide (V.bl (shortF b on) = V.bl (decide (n1 b ∈ reachF (pairsF b on b.contacts.length) [n0 b] b.nodes.length)))) = false := by
          rw [decide_eq_true (show V.bl (shortF b on) = V.bl (decide (n1 b ∈ reachF (pairsF b on b.contacts.length) [n0 b] b.nodes.length)) from rfl)]
          rfl
        rw [c1]
        refine iteF ?_
        refine ⟨_, rfl, _, rfl, p, _, 0, _, rfl, rfl, sq (g7 _ _ hS0), rfl, n, _, 0, _, rfl, rfl, sq (g7 _ _ hS1), at_row z0, _, rfl, o7, _, rfl, .inl (sq ho7x), rfl, flat_strs _, ?_⟩
        rw [if_neg Bool.false_ne_true, inV_str]
        refine ⟨rfl, _, rfl, ?_⟩
        have c2 : (!decide (V.bl (shortF b on) = V.bl (decide (n0 b ∈ reachF ((pairsF b on b.contacts.length).map Prod.swap) [n1 b] b.nodes.length)))) = false := by
          rw [decide_eq_true (show V.bl (shortF b on) = V.bl (decide (n0 b ∈ reachF ((pairsF b on b.contacts.length).map Prod.swap) [n1 b] b.nodes.length)) from congrArg V.bl (short_feed ok on))]
          rfl
        rw [c2]
        refine iteF ?_
        -- the lists are spoilt
        have k7 : Same G3 G7 := (q4.trans q5).trans (q6.trans q7)
        refine ⟨_, rfl, .inl ⟨rfl, _, sq (k7 _ _ hw1')⟩, _, rfl, p, _, 0, _, rfl, rfl, sq (g7 _ _ hS0), rfl, n, _, 0, _, rfl, rfl, sq (g7 _ _ hS1), at_row z0, w1, _, _, rfl, rfl, k7 _ _ hw1', szlt (by rw [List.length_map]; have := lenS (f := fun z => decide (z ∈ fedF b on)); omega), ?_⟩
        have m1 : Same Hl (upd G7 w1 (.lst (((b.nodes.filter fun z => decide (z ∈ fedF b on)).map V.str) ++ [.str (n0 b)]))) := same_mut (sG3.trans k7) nw1'
        have n12 : w2 ≠ w1 := fun e => by
          have := ((e2.trans q2).free (H' := G2) (l := w2))
          rw [e] at nw2
          have h9 := e2 _ _ hw1
          rw [nw2] at h9
          cases h9
        have hw2x : (upd G7 w1 (.lst (((b.nodes.filter fun z => decide (z ∈ fedF b on)).map V.str) ++ [.str (n0 b)]))) w2 = some (.lst ((b.nodes.filter fun z => decide (z ∈ feedF b on)).map V.str)) := by
          rw [upd_ne n12]
          exact k7 _ _ hw2'
        have mS0 := m1 _ _ (sl _ _ hS0)
        have mS1 := m1 _ _ (sl _ _ hS1)
        refine ⟨_, rfl, .inl ⟨rfl, _, sq hw2x⟩, _, rfl, p, _, 0, _, rfl, rfl, sq mS0, rfl, n, _, 0, _, rfl, rfl, sq mS1, at_row z0, w2, _, _, rfl, rfl, hw2x, szlt (by rw [List.length_map]; have := lenS (f := fun z => decide (z ∈ feedF b on)); omega), ?_⟩
        exact ⟨⟨_, _, _, _, rfl⟩, same_mut m1 nw2'⟩
      · rintro σ G ⟨_, sm⟩
        exact q G
end
theorem all_mk {l : PySem.W.OpenLaw} {w : World} {K : PySem.W.Frag} {h : Heap} {mg : Str → Option Value} {fa : Addr} (X : K.In h) (G : h.Ns mainGlobals mg) (hfa : mg "law" = some (.ref fa))
    {C : Addr}
    {tc1 : Tok}
    {tc2 : Tok}
    {tc3 : Tok}
    {tc4 : Tok}
    {tc5 : Tok}
    {tg1 : Tok}
    {tg2 : Tok}
    {tg3 : Tok}
    {tg4 : Tok}
    {aW : Addr} {xW yW : Tok} {ddW : Option Addr} {nW : Nat} {ssW : Array (Option Value)}
    {aY : Addr} {xY yY : Tok} {ddY : Option Addr} {nY : Nat} {ssY : Array (Option Value)}
    {fCsp : Addr} {odCsp anCsp : Option Addr} {slCsp : Array (Option Value)} {ocCsp dcCsp pmCsp cdCsp ctCsp : Value} {kVCsp : Value}
    {fCnm : Addr} {odCnm anCnm : Option Addr} {slCnm : Array (Option Value)} {ocCnm dcCnm pmCnm cdCnm ctCnm : Value} {kVCnm : Value}
    {fCct : Addr} {odCct anCct : Option Addr} {slCct : Array (Option Value)} {ocCct dcCct pmCct cdCct ctCct : Value} {kVCct : Value}
    {fIni : Addr} {odIni anIni : Option Addr} {slIni : Array (Option Value)} {ocIni dcIni pmIni cdIni ctIni : Value} {kVIni : Value}
    {pMov : Addr} {rsMov : List Value}
    {fMov : Addr} {odMov anMov : Option Addr} {slMov : Array (Option Value)} {ocMov dcMov pmMov cdMov ctMov : Value} {kVMov : Value}
    {fIsn : Addr} {odIsn anIsn : Option Addr} {slIsn : Array (Option Value)} {ocIsn dcIsn pmIsn cdIsn ctIsn : Value} {kVIsn : Value}
    {fArn : Addr} {odArn anArn : Option Addr} {slArn : Array (Option Value)} {ocArn dcArn pmArn cdArn ctArn : Value} {kVArn : Value}
    {fSpn : Addr} {odSpn anSpn : Option Addr} {slSpn : Array (Option Value)} {ocSpn dcSpn pmSpn cdSpn ctSpn : Value} {kVSpn : Value}
    {fCnt : Addr} {odCnt anCnt : Option Addr} {slCnt : Array (Option Value)} {ocCnt dcCnt pmCnt cdCnt ctCnt : Value} {kVCnt : Value}
    {fCls : Addr} {odCls anCls : Option Addr} {slCls : Array (Option Value)} {ocCls dcCls pmCls cdCls ctCls : Value} {kVCls : Value}
    {fFed : Addr} {odFed anFed : Option Addr} {slFed : Array (Option Value)} {ocFed dcFed pmFed cdFed ctFed : Value} {kVFed : Value}
    {fFee : Addr} {odFee anFee : Option Addr} {slFee : Array (Option Value)} {ocFee dcFee pmFee cdFee ctFee : Value} {kVFee : Value}
    {fSho : Addr} {odSho anSho : Option Addr} {slSho : Array (Option Value)} {ocSho dcSho pmSho cdSho ctSho : Value} {kVSho : Value}
    {fMkd : Addr} {odMkd anMkd : Option Addr} {slMkd : Array (Option Value)} {ocMkd dcMkd pmMkd cdMkd ctMkd : Value} {kVMkd : Value}
    {fTur : Addr} {odTur anTur : Option Addr} {slTur : Array (Option Value)} {ocTur dcTur pmTur cdTur ctTur : Value} {kVTur : Value}
    {fSpr : Addr} {odSpr anSpr : Option Addr} {slSpr : Array (Option Value)} {ocSpr dcSpr pmSpr cdSpr ctSpr : Value} {kVSpr : Value}
    {fRow : Addr} {odRow anRow : Option Addr} {slRow : Array (Option Value)} {ocRow dcRow pmRow cdRow ctRow : Value} {kVRow : Value}
    {fNum : Addr} {odNum anNum : Option Addr} {slNum : Array (Option Value)} {ocNum dcNum pmNum cdNum ctNum : Value} {kVNum : Value}
    {fNms : Addr} {odNms anNms : Option Addr} {slNms : Array (Option Value)} {ocNms dcNms pmNms cdNms ctNms : Value} {kVNms : Value}
    {fLoa : Addr} {odLoa anLoa : Option Addr} {slLoa : Array (Option Value)} {ocLoa dcLoa pmLoa cdLoa ctLoa : Value} {kVLoa : Value}
    {fLco : Addr} {odLco anLco : Option Addr} {slLco : Array (Option Value)} {ocLco dcLco pmLco cdLco ctLco : Value} {kVLco : Value}
    {fBor : Addr} {odBor anBor : Option Addr} {slBor : Array (Option Value)} {ocBor dcBor pmBor cdBor ctBor : Value} {kVBor : Value}
    {fMad : Addr} {odMad anMad : Option Addr} {slMad : Array (Option Value)} {ocMad dcMad pmMad cdMad ctMad : Value} {kVMad : Value}
    {fLmv : Addr} {odLmv anLmv : Option Addr} {slLmv : Array (Option Value)} {ocLmv dcLmv pmLmv cdLmv ctLmv : Value} {kVLmv : Value}
    {fSta : Addr} {odSta anSta : Option Addr} {slSta : Array (Option Value)} {ocSta dcSta pmSta cdSta ctSta : Value} {kVSta : Value}
    {fClo : Addr} {odClo anClo : Option Addr} {slClo : Array (Option Value)} {ocClo dcClo pmClo cdClo ctClo : Value} {kVClo : Value}
    {fPai : Addr} {odPai anPai : Option Addr} {slPai : Array (Option Value)} {ocPai dcPai pmPai cdPai ctPai : Value} {kVPai : Value}
    {fRea : Addr} {odRea anRea : Option Addr} {slRea : Array (Option Value)} {ocRea dcRea pmRea cdRea ctRea : Value} {kVRea : Value}
    {fRes : Addr} {odRes anRes : Option Addr} {slRes : Array (Option Value)} {ocRes dcRes pmRes cdRes ctRes : Value} {kVRes : Value}
    {fAre : Addr} {odAre anAre : Option Addr} {slAre : Array (Option Value)} {ocAre dcAre pmAre cdAre ctAre : Value} {kVAre : Value}
    {fLaw : Addr} {odLaw anLaw : Option Addr} {slLaw : Array (Option Value)} {ocLaw dcLaw pmLaw cdLaw ctLaw : Value} {kVLaw : Value}
    {N : Addr}
    {tN1 : Tok}
    {tN2 : Tok}
    {fNIn : Addr} {odNIn anNIn : Option Addr} {slNIn : Array (Option Value)} {ocNIn dcNIn pmNIn cdNIn ctNIn : Value} {kVNIn : Value}
    {fNFd : Addr} {odNFd anNFd : Option Addr} {slNFd : Array (Option Value)} {ocNFd dcNFd pmNFd cdNFd ctNFd : Value} {kVNFd : Value}
    {fNFe : Addr} {odNFe anNFe : Option Addr} {slNFe : Array (Option Value)} {ocNFe dcNFe pmNFe cdNFe ctNFe : Value} {kVNFe : Value}
    {fNAr : Addr} {odNAr anNAr : Option Addr} {slNAr : Array (Option Value)} {ocNAr dcNAr pmNAr cdNAr ctNAr : Value} {kVNAr : Value}
    (aC : PySem.W.nsIn K mainGlobals "Board" = some (some (.ref C)))
    (pg : PySem.W.plainGet K C Str.empty = true)
    (hd : PySem.W.hasDictIn K C = true)
    (po : PySem.W.plainOver K C = true)
    (sa : PySem.W.findIn K (.ref C) "__setattr__" = some (some (.builtin "object.__setattr__")))
    (mk : PySem.W.makesIn K C = true)
    (kc : PySem.W.keepIn K (.ref C) = true)
    (rd : PySem.W.readsIn K C (.type "type") = true)
    (ga : PySem.W.specialIn K (.ref C) "__getattribute__" = some (some (.builtin "type.__getattribute__")))
    (nN : PySem.W.findIn K (.ref C) "nodes" = some none)
    (nS : PySem.W.findIn K (.ref C) "switches" = some none)
    (nR : PySem.W.findIn K (.ref C) "relays" = some none)
    (nL : PySem.W.findIn K (.ref C) "lamps" = some none)
    (nC : PySem.W.findIn K (.ref C) "contacts" = some none)
    (nM : PySem.W.findIn K (.ref C) "_movers" = some none)
    (m1 : PySem.W.findCls K (.ref C) (.type "type") "MOST_NODES" = some (.val (.int 16 tc1)))
    (m2 : PySem.W.findCls K (.ref C) (.type "type") "MOST_SWITCHES" = some (.val (.int 6 tc2)))
    (m3 : PySem.W.findCls K (.ref C) (.type "type") "MOST_RELAYS" = some (.val (.int 8 tc3)))
    (m4 : PySem.W.findCls K (.ref C) (.type "type") "MOST_LAMPS" = some (.val (.int 8 tc4)))
    (m5 : PySem.W.findCls K (.ref C) (.type "type") "MOST_CONTACTS" = some (.val (.int 40 tc5)))
    (q1 : PySem.W.nsIn K mainGlobals "LONGEST_NAME" = some (some (.int 12 tg1)))
    (q2 : PySem.W.nsIn K mainGlobals "LEAST_NODES" = some (some (.int 2 tg2)))
    (q3 : PySem.W.nsIn K mainGlobals "LEAST_LAMPS" = some (some (.int 1 tg3)))
    (q4 : PySem.W.nsIn K mainGlobals "CHARACTERS" = some (some (.str "abcdefghijklmnopqrstuvwxyz0123456789" tg4)))
    (bW : PySem.W.nsIn K mainGlobals "WHENS" = some (some (.ref aW)))
    (eW : K.lookup aW = some ⟨.type "tuple", ddW, .seq #[.str "make" xW, .str "break" yW] nW, ssW⟩)
    (bY : PySem.W.nsIn K mainGlobals "WAYS" = some (some (.ref aY)))
    (eY : K.lookup aY = some ⟨.type "tuple", ddY, .seq #[.str "both" xY, .str "forward" yY] nY, ssY⟩)
    (aCsp : PySem.W.findIn K (.ref C) "_check_spans" = some (some (.ref fCsp)))
    (iCsp : PySem.W.isFn K (.ref fCsp) = true)
    (lCsp : K.lookup fCsp = some ⟨ocCsp, odCsp, .func (PySem.W.fnOf "_check_spans" "Board._check_spans" (defArgs sBoardCheckSpans) (defBody sBoardCheckSpans) (defScope sBoardCheckSpans) .none kVCsp dcCsp pmCsp anCsp cdCsp ctCsp), slCsp⟩)
    (cCsp : PySem.W.codeIn K cdCsp "Board._check_spans" = true)
    (kCsp : PySem.W.keepIn K (.ref fCsp) = true)
    (aCnm : PySem.W.findIn K (.ref C) "_check_names" = some (some (.ref fCnm)))
    (iCnm : PySem.W.isFn K (.ref fCnm) = true)
    (lCnm : K.lookup fCnm = some ⟨ocCnm, odCnm, .func (PySem.W.fnOf "_check_names" "Board._check_names" (defArgs sBoardCheckNames) (defBody sBoardCheckNames) (defScope sBoardCheckNames) .none kVCnm dcCnm pmCnm anCnm cdCnm ctCnm), slCnm⟩)
    (cCnm : PySem.W.codeIn K cdCnm "Board._check_names" = true)
    (kCnm : PySem.W.keepIn K (.ref fCnm) = true)
    (aCct : PySem.W.findIn K (.ref C) "_check_contacts" = some (some (.ref fCct)))
    (iCct : PySem.W.isFn K (.ref fCct) = true)
    (lCct : K.lookup fCct = some ⟨ocCct, odCct, .func (PySem.W.fnOf "_check_contacts" "Board._check_contacts" (defArgs sBoardCheckContacts) (defBody sBoardCheckContacts) (defScope sBoardCheckContacts) .none kVCct dcCct pmCct anCct cdCct ctCct), slCct⟩)
    (cCct : PySem.W.codeIn K cdCct "Board._check_contacts" = true)
    (kCct : PySem.W.keepIn K (.ref fCct) = true)
    (aIni : PySem.W.findIn K (.ref C) "__init__" = some (some (.ref fIni)))
    (iIni : PySem.W.isFn K (.ref fIni) = true)
    (lIni : K.lookup fIni = some ⟨ocIni, odIni, .func (PySem.W.fnOf "__init__" "Board.__init__" (defArgs sBoardInit) (defBody sBoardInit) (defScope sBoardInit) .none kVIni dcIni pmIni anIni cdIni ctIni), slIni⟩)
    (cIni : PySem.W.codeIn K cdIni "Board.__init__" = true)
    (kIni : PySem.W.keepIn K (.ref fIni) = true)
    (aMov : PySem.W.findIn K (.ref C) "movers" = some (some (.ref pMov)))
    (uMov : PySem.W.specialIn K (.ref pMov) "__get__" = some (some (.builtin "property.__get__")))
    (vMov : PySem.W.takesIn K (.ref pMov) = some true)
    (rMov : PySem.W.recIn K pMov "property" = some (.ref fMov :: rsMov))
    (lMov : K.lookup fMov = some ⟨ocMov, odMov, .func (PySem.W.fnOf "movers" "Board.movers" (defArgs sBoardMovers) (defBody sBoardMovers) (defScope sBoardMovers) .none kVMov dcMov pmMov anMov cdMov ctMov), slMov⟩)
    (cMov : PySem.W.codeIn K cdMov "Board.movers" = true)
    (kMov : PySem.W.keepIn K (.ref fMov) = true)
    (aIsn : PySem.W.nsIn K mainGlobals "is_good_name" = some (some (.ref fIsn)))
    (lIsn : K.lookup fIsn = some ⟨ocIsn, odIsn, .func (PySem.W.fnOf "is_good_name" "is_good_name" (defArgs sIsGoodName) (defBody sIsGoodName) (defScope sIsGoodName) .none kVIsn dcIsn pmIsn anIsn cdIsn ctIsn), slIsn⟩)
    (cIsn : PySem.W.codeIn K cdIsn "is_good_name" = true)
    (kIsn : PySem.W.keepIn K (.ref fIsn) = true)
    (aArn : PySem.W.nsIn K mainGlobals "are_names" = some (some (.ref fArn)))
    (lArn : K.lookup fArn = some ⟨ocArn, odArn, .func (PySem.W.fnOf "are_names" "are_names" (defArgs sAreNames) (defBody sAreNames) (defScope sAreNames) .none kVArn dcArn pmArn anArn cdArn ctArn), slArn⟩)
    (cArn : PySem.W.codeIn K cdArn "are_names" = true)
    (kArn : PySem.W.keepIn K (.ref fArn) = true)
    (aSpn : PySem.W.nsIn K mainGlobals "is_span" = some (some (.ref fSpn)))
    (lSpn : K.lookup fSpn = some ⟨ocSpn, odSpn, .func (PySem.W.fnOf "is_span" "is_span" (defArgs sIsSpan) (defBody sIsSpan) (defScope sIsSpan) .none kVSpn dcSpn pmSpn anSpn cdSpn ctSpn), slSpn⟩)
    (cSpn : PySem.W.codeIn K cdSpn "is_span" = true)
    (kSpn : PySem.W.keepIn K (.ref fSpn) = true)
    (aCnt : PySem.W.nsIn K mainGlobals "is_contact" = some (some (.ref fCnt)))
    (lCnt : K.lookup fCnt = some ⟨ocCnt, odCnt, .func (PySem.W.fnOf "is_contact" "is_contact" (defArgs sIsContact) (defBody sIsContact) (defScope sIsContact) .none kVCnt dcCnt pmCnt anCnt cdCnt ctCnt), slCnt⟩)
    (cCnt : PySem.W.codeIn K cdCnt "is_contact" = true)
    (kCnt : PySem.W.keepIn K (.ref fCnt) = true)
    (aCls : PySem.W.nsIn K mainGlobals "closes" = some (some (.ref fCls)))
    (lCls : K.lookup fCls = some ⟨ocCls, odCls, .func (PySem.W.fnOf "closes" "closes" (defArgs sCloses) (defBody sCloses) (defScope sCloses) .none kVCls dcCls pmCls anCls cdCls ctCls), slCls⟩)
    (cCls : PySem.W.codeIn K cdCls "closes" = true)
    (kCls : PySem.W.keepIn K (.ref fCls) = true)
    (aFed : PySem.W.nsIn K mainGlobals "fed" = some (some (.ref fFed)))
    (lFed : K.lookup fFed = some ⟨ocFed, odFed, .func (PySem.W.fnOf "fed" "fed" (defArgs sFed) (defBody sFed) (defScope sFed) .none kVFed dcFed pmFed anFed cdFed ctFed), slFed⟩)
    (cFed : PySem.W.codeIn K cdFed "fed" = true)
    (kFed : PySem.W.keepIn K (.ref fFed) = true)
    (aFee : PySem.W.nsIn K mainGlobals "feeds" = some (some (.ref fFee)))
    (lFee : K.lookup fFee = some ⟨ocFee, odFee, .func (PySem.W.fnOf "feeds" "feeds" (defArgs sFeeds) (defBody sFeeds) (defScope sFeeds) .none kVFee dcFee pmFee anFee cdFee ctFee), slFee⟩)
    (cFee : PySem.W.codeIn K cdFee "feeds" = true)
    (kFee : PySem.W.keepIn K (.ref fFee) = true)
    (aSho : PySem.W.nsIn K mainGlobals "is_short" = some (some (.ref fSho)))
    (lSho : K.lookup fSho = some ⟨ocSho, odSho, .func (PySem.W.fnOf "is_short" "is_short" (defArgs sIsShort) (defBody sIsShort) (defScope sIsShort) .none kVSho dcSho pmSho anSho cdSho ctSho), slSho⟩)
    (cSho : PySem.W.codeIn K cdSho "is_short" = true)
    (kSho : PySem.W.keepIn K (.ref fSho) = true)
    (aMkd : PySem.W.nsIn K mainGlobals "marked" = some (some (.ref fMkd)))
    (lMkd : K.lookup fMkd = some ⟨ocMkd, odMkd, .func (PySem.W.fnOf "marked" "marked" (defArgs sMarked) (defBody sMarked) (defScope sMarked) .none kVMkd dcMkd pmMkd anMkd cdMkd ctMkd), slMkd⟩)
    (cMkd : PySem.W.codeIn K cdMkd "marked" = true)
    (kMkd : PySem.W.keepIn K (.ref fMkd) = true)
    (aTur : PySem.W.nsIn K mainGlobals "_turned" = some (some (.ref fTur)))
    (lTur : K.lookup fTur = some ⟨ocTur, odTur, .func (PySem.W.fnOf "_turned" "_turned" (defArgs sTurned) (defBody sTurned) (defScope sTurned) .none kVTur dcTur pmTur anTur cdTur ctTur), slTur⟩)
    (cTur : PySem.W.codeIn K cdTur "_turned" = true)
    (kTur : PySem.W.keepIn K (.ref fTur) = true)
    (aSpr : PySem.W.nsIn K mainGlobals "_spread" = some (some (.ref fSpr)))
    (lSpr : K.lookup fSpr = some ⟨ocSpr, odSpr, .func (PySem.W.fnOf "_spread" "_spread" (defArgs sSpread) (defBody sSpread) (defScope sSpread) .none kVSpr dcSpr pmSpr anSpr cdSpr ctSpr), slSpr⟩)
    (cSpr : PySem.W.codeIn K cdSpr "_spread" = true)
    (kSpr : PySem.W.keepIn K (.ref fSpr) = true)
    (aRow : PySem.W.nsIn K mainGlobals "_law_row" = some (some (.ref fRow)))
    (lRow : K.lookup fRow = some ⟨ocRow, odRow, .func (PySem.W.fnOf "_law_row" "_law_row" (defArgs sLawRow) (defBody sLawRow) (defScope sLawRow) .none kVRow dcRow pmRow anRow cdRow ctRow), slRow⟩)
    (cRow : PySem.W.codeIn K cdRow "_law_row" = true)
    (kRow : PySem.W.keepIn K (.ref fRow) = true)
    (aNum : PySem.W.nsIn K mainGlobals "_law_numbers" = some (some (.ref fNum)))
    (lNum : K.lookup fNum = some ⟨ocNum, odNum, .func (PySem.W.fnOf "_law_numbers" "_law_numbers" (defArgs sLawNumbers) (defBody sLawNumbers) (defScope sLawNumbers) .none kVNum dcNum pmNum anNum cdNum ctNum), slNum⟩)
    (cNum : PySem.W.codeIn K cdNum "_law_numbers" = true)
    (kNum : PySem.W.keepIn K (.ref fNum) = true)
    (aNms : PySem.W.nsIn K mainGlobals "_law_names" = some (some (.ref fNms)))
    (lNms : K.lookup fNms = some ⟨ocNms, odNms, .func (PySem.W.fnOf "_law_names" "_law_names" (defArgs sLawNames) (defBody sLawNames) (defScope sLawNames) .none kVNms dcNms pmNms anNms cdNms ctNms), slNms⟩)
    (cNms : PySem.W.codeIn K cdNms "_law_names" = true)
    (kNms : PySem.W.keepIn K (.ref fNms) = true)
    (aLoa : PySem.W.nsIn K mainGlobals "_law_loads" = some (some (.ref fLoa)))
    (lLoa : K.lookup fLoa = some ⟨ocLoa, odLoa, .func (PySem.W.fnOf "_law_loads" "_law_loads" (defArgs sLawLoads) (defBody sLawLoads) (defScope sLawLoads) .none kVLoa dcLoa pmLoa anLoa cdLoa ctLoa), slLoa⟩)
    (cLoa : PySem.W.codeIn K cdLoa "_law_loads" = true)
    (kLoa : PySem.W.keepIn K (.ref fLoa) = true)
    (aLco : PySem.W.nsIn K mainGlobals "_law_contact" = some (some (.ref fLco)))
    (lLco : K.lookup fLco = some ⟨ocLco, odLco, .func (PySem.W.fnOf "_law_contact" "_law_contact" (defArgs sLawContact) (defBody sLawContact) (defScope sLawContact) .none kVLco dcLco pmLco anLco cdLco ctLco), slLco⟩)
    (cLco : PySem.W.codeIn K cdLco "_law_contact" = true)
    (kLco : PySem.W.keepIn K (.ref fLco) = true)
    (aBor : PySem.W.nsIn K mainGlobals "_law_board" = some (some (.ref fBor)))
    (lBor : K.lookup fBor = some ⟨ocBor, odBor, .func (PySem.W.fnOf "_law_board" "_law_board" (defArgs sLawBoard) (defBody sLawBoard) (defScope sLawBoard) .none kVBor dcBor pmBor anBor cdBor ctBor), slBor⟩)
    (cBor : PySem.W.codeIn K cdBor "_law_board" = true)
    (kBor : PySem.W.keepIn K (.ref fBor) = true)
    (aMad : PySem.W.nsIn K mainGlobals "_law_made" = some (some (.ref fMad)))
    (lMad : K.lookup fMad = some ⟨ocMad, odMad, .func (PySem.W.fnOf "_law_made" "_law_made" (defArgs sLawMade) (defBody sLawMade) (defScope sLawMade) .none kVMad dcMad pmMad anMad cdMad ctMad), slMad⟩)
    (cMad : PySem.W.codeIn K cdMad "_law_made" = true)
    (kMad : PySem.W.keepIn K (.ref fMad) = true)
    (aLmv : PySem.W.nsIn K mainGlobals "_law_movers" = some (some (.ref fLmv)))
    (lLmv : K.lookup fLmv = some ⟨ocLmv, odLmv, .func (PySem.W.fnOf "_law_movers" "_law_movers" (defArgs sLawMovers) (defBody sLawMovers) (defScope sLawMovers) .none kVLmv dcLmv pmLmv anLmv cdLmv ctLmv), slLmv⟩)
    (cLmv : PySem.W.codeIn K cdLmv "_law_movers" = true)
    (kLmv : PySem.W.keepIn K (.ref fLmv) = true)
    (aSta : PySem.W.nsIn K mainGlobals "_law_state" = some (some (.ref fSta)))
    (lSta : K.lookup fSta = some ⟨ocSta, odSta, .func (PySem.W.fnOf "_law_state" "_law_state" (defArgs sLawState) (defBody sLawState) (defScope sLawState) .none kVSta dcSta pmSta anSta cdSta ctSta), slSta⟩)
    (cSta : PySem.W.codeIn K cdSta "_law_state" = true)
    (kSta : PySem.W.keepIn K (.ref fSta) = true)
    (aClo : PySem.W.nsIn K mainGlobals "_law_closed" = some (some (.ref fClo)))
    (lClo : K.lookup fClo = some ⟨ocClo, odClo, .func (PySem.W.fnOf "_law_closed" "_law_closed" (defArgs sLawClosed) (defBody sLawClosed) (defScope sLawClosed) .none kVClo dcClo pmClo anClo cdClo ctClo), slClo⟩)
    (cClo : PySem.W.codeIn K cdClo "_law_closed" = true)
    (kClo : PySem.W.keepIn K (.ref fClo) = true)
    (aPai : PySem.W.nsIn K mainGlobals "_law_pairs" = some (some (.ref fPai)))
    (lPai : K.lookup fPai = some ⟨ocPai, odPai, .func (PySem.W.fnOf "_law_pairs" "_law_pairs" (defArgs sLawPairs) (defBody sLawPairs) (defScope sLawPairs) .none kVPai dcPai pmPai anPai cdPai ctPai), slPai⟩)
    (cPai : PySem.W.codeIn K cdPai "_law_pairs" = true)
    (kPai : PySem.W.keepIn K (.ref fPai) = true)
    (aRea : PySem.W.nsIn K mainGlobals "_law_reach" = some (some (.ref fRea)))
    (lRea : K.lookup fRea = some ⟨ocRea, odRea, .func (PySem.W.fnOf "_law_reach" "_law_reach" (defArgs sLawReach) (defBody sLawReach) (defScope sLawReach) .none kVRea dcRea pmRea anRea cdRea ctRea), slRea⟩)
    (cRea : PySem.W.codeIn K cdRea "_law_reach" = true)
    (kRea : PySem.W.keepIn K (.ref fRea) = true)
    (aRes : PySem.W.nsIn K mainGlobals "_law_reaches" = some (some (.ref fRes)))
    (lRes : K.lookup fRes = some ⟨ocRes, odRes, .func (PySem.W.fnOf "_law_reaches" "_law_reaches" (defArgs sLawReaches) (defBody sLawReaches) (defScope sLawReaches) .none kVRes dcRes pmRes anRes cdRes ctRes), slRes⟩)
    (cRes : PySem.W.codeIn K cdRes "_law_reaches" = true)
    (kRes : PySem.W.keepIn K (.ref fRes) = true)
    (aAre : PySem.W.nsIn K mainGlobals "_law_are_strings" = some (some (.ref fAre)))
    (lAre : K.lookup fAre = some ⟨ocAre, odAre, .func (PySem.W.fnOf "_law_are_strings" "_law_are_strings" (defArgs sLawAreStrings) (defBody sLawAreStrings) (defScope sLawAreStrings) .none kVAre dcAre pmAre anAre cdAre ctAre), slAre⟩)
    (cAre : PySem.W.codeIn K cdAre "_law_are_strings" = true)
    (kAre : PySem.W.keepIn K (.ref fAre) = true)
    (aLaw : PySem.W.nsIn K mainGlobals "law" = some (some (.ref fLaw)))
    (lLaw : K.lookup fLaw = some ⟨ocLaw, odLaw, .func (PySem.W.fnOf "law" "law" (defArgs sLaw) (defBody sLaw) (defScope sLaw) .none kVLaw dcLaw pmLaw anLaw cdLaw ctLaw), slLaw⟩)
    (cLaw : PySem.W.codeIn K cdLaw "law" = true)
    (kLaw : PySem.W.keepIn K (.ref fLaw) = true)
    (zlen : PySem.W.nsIn K mainGlobals "len" = some none)
    (zall : PySem.W.nsIn K mainGlobals "all" = some none)
    (ztuple : PySem.W.nsIn K mainGlobals "tuple" = some none)
    (zenumerate : PySem.W.nsIn K mainGlobals "enumerate" = some none)
    (zabs : PySem.W.nsIn K mainGlobals "abs" = some none)
    (zint : PySem.W.nsIn K mainGlobals "int" = some none)
    (zrange : PySem.W.nsIn K mainGlobals "range" = some none)
    (zmax : PySem.W.nsIn K mainGlobals "max" = some none)
    (zlist : PySem.W.nsIn K mainGlobals "list" = some none)
    (zisinstance : PySem.W.nsIn K mainGlobals "isinstance" = some none)
    (zbool : PySem.W.nsIn K mainGlobals "bool" = some none)
    (zstr : PySem.W.nsIn K mainGlobals "str" = some none)
    (zzip : PySem.W.nsIn K mainGlobals "zip" = some none)
    (aN : PySem.W.nsIn K mainGlobals "Net" = some (some (.ref N)))
    (Npg : PySem.W.plainGet K N Str.empty = true)
    (Nhd : PySem.W.hasDictIn K N = true)
    (Npo : PySem.W.plainOver K N = true)
    (Nsa : PySem.W.findIn K (.ref N) "__setattr__" = some (some (.builtin "object.__setattr__")))
    (Nmk : PySem.W.makesIn K N = true)
    (Nkc : PySem.W.keepIn K (.ref N) = true)
    (N1 : PySem.W.findIn K (.ref N) "_size" = some none)
    (N2 : PySem.W.findIn K (.ref N) "_coils" = some none)
    (N3 : PySem.W.findIn K (.ref N) "_bulbs" = some none)
    (N4 : PySem.W.findIn K (.ref N) "_links" = some none)
    (NG1 : PySem.W.nsIn K mainGlobals "PLUS" = some (some (.int 0 tN1)))
    (NG2 : PySem.W.nsIn K mainGlobals "MINUS" = some (some (.int 1 tN2)))
    (aNIn : PySem.W.findIn K (.ref N) "__init__" = some (some (.ref fNIn)))
    (iNIn : PySem.W.isFn K (.ref fNIn) = true)
    (lNIn : K.lookup fNIn = some ⟨ocNIn, odNIn, .func (PySem.W.fnOf "__init__" "Net.__init__" (defArgs sNetInit) (defBody sNetInit) (defScope sNetInit) .none kVNIn dcNIn pmNIn anNIn cdNIn ctNIn), slNIn⟩)
    (cNIn : PySem.W.codeIn K cdNIn "Net.__init__" = true)
    (kNIn : PySem.W.keepIn K (.ref fNIn) = true)
    (aNFd : PySem.W.findIn K (.ref N) "fed_nodes" = some (some (.ref fNFd)))
    (iNFd : PySem.W.isFn K (.ref fNFd) = true)
    (lNFd : K.lookup fNFd = some ⟨ocNFd, odNFd, .func (PySem.W.fnOf "fed_nodes" "Net.fed_nodes" (defArgs sNetFedNodes) (defBody sNetFedNodes) (defScope sNetFedNodes) .none kVNFd dcNFd pmNFd anNFd cdNFd ctNFd), slNFd⟩)
    (cNFd : PySem.W.codeIn K cdNFd "Net.fed_nodes" = true)
    (kNFd : PySem.W.keepIn K (.ref fNFd) = true)
    (aNFe : PySem.W.findIn K (.ref N) "feeding_nodes" = some (some (.ref fNFe)))
    (iNFe : PySem.W.isFn K (.ref fNFe) = true)
    (lNFe : K.lookup fNFe = some ⟨ocNFe, odNFe, .func (PySem.W.fnOf "feeding_nodes" "Net.feeding_nodes" (defArgs sNetFeedingNodes) (defBody sNetFeedingNodes) (defScope sNetFeedingNodes) .none kVNFe dcNFe pmNFe anNFe cdNFe ctNFe), slNFe⟩)
    (cNFe : PySem.W.codeIn K cdNFe "Net.feeding_nodes" = true)
    (kNFe : PySem.W.keepIn K (.ref fNFe) = true)
    (aNAr : PySem.W.findIn K (.ref N) "_arrows" = some (some (.ref fNAr)))
    (iNAr : PySem.W.isFn K (.ref fNAr) = true)
    (lNAr : K.lookup fNAr = some ⟨ocNAr, odNAr, .func (PySem.W.fnOf "_arrows" "Net._arrows" (defArgs sNetArrows) (defBody sNetArrows) (defScope sNetArrows) .none kVNAr dcNAr pmNAr anNAr cdNAr ctNAr), slNAr⟩)
    (cNAr : PySem.W.codeIn K cdNAr "Net._arrows" = true)
    (kNAr : PySem.W.keepIn K (.ref fNAr) = true)
    : ∃ fd : FuncData, (∀ (s : Shared) (v : Value), BindsTo s fd ⟨[v], []⟩ [("script", v)]) ∧ ∀ base : Heap, K.In base → base.Ns mainGlobals mg → FnOk l.prog w K mg base CX0 7 fa fd ["script"] (spLaw K) := by
  have e := hfa.symm.trans (PySem.W.mg_of X G aLaw)
  cases e
  have FCsp := fun_mk (st := sBoardCheckSpans) lCsp cCsp kCsp
  have bCsp := FCsp.binds (ps := ["self"]) fun _ _ _ _ _ _ us hl => match us, hl with | [_], _ => rfl
  have FCnm := fun_mk (st := sBoardCheckNames) lCnm cCnm kCnm
  have bCnm := FCnm.binds (ps := ["self"]) fun _ _ _ _ _ _ us hl => match us, hl with | [_], _ => rfl
  have FCct := fun_mk (st := sBoardCheckContacts) lCct cCct kCct
  have bCct := FCct.binds (ps := ["self"]) fun _ _ _ _ _ _ us hl => match us, hl with | [_], _ => rfl
  have FIni := fun_mk (st := sBoardInit) lIni cIni kIni
  have FMov := fun_mk (st := sBoardMovers) lMov cMov kMov
  have bMov := FMov.binds (ps := ["self"]) fun _ _ _ _ _ _ us hl => match us, hl with | [_], _ => rfl
  have T : BTxt K mg C (.type "type") fIsn fIsn := ⟨⟨pg, hd, po, sa⟩, nN, nS, nR, nL, nC, nM, PySem.W.mg_of X G aC, PySem.W.mg_of X G aIsn, ⟨rd, ga⟩, ⟨_, m1⟩, ⟨_, m2⟩, ⟨_, m3⟩, ⟨_, m4⟩, ⟨_, m5⟩,
    ⟨_, PySem.W.mg_of X G q1⟩, ⟨_, PySem.W.mg_of X G q2⟩, ⟨_, PySem.W.mg_of X G q3⟩, ⟨_, PySem.W.mg_of X G q4⟩,
    ⟨_, PySem.W.mg_of X G bW, fun H => .inr ⟨_, _, _, eW, rfl, rfl, by show 2 ≤ sizeLine; decide, .cons ⟨_, rfl⟩ (.cons ⟨_, rfl⟩ .nil)⟩⟩, ⟨_, PySem.W.mg_of X G bY, fun H => .inr ⟨_, _, _, eY, rfl, rfl, by show 2 ≤ sizeLine; decide, .cons ⟨_, rfl⟩ (.cons ⟨_, rfl⟩ .nil)⟩⟩,
    PySem.W.mg_none_of X G zlen, PySem.W.mg_none_of X G zall, PySem.W.mg_none_of X G ztuple, PySem.W.mg_none_of X G zenumerate⟩
  have FIsn := fun_mk (st := sIsGoodName) lIsn cIsn kIsn
  have bIsn := FIsn.binds (ps := ["text"]) fun _ _ _ _ _ _ us hl => match us, hl with | [_], _ => rfl
  have gIsn := PySem.W.mg_of X G aIsn
  have FArn := fun_mk (st := sAreNames) lArn cArn kArn
  have bArn := FArn.binds (ps := ["names", "least", "most"]) fun _ _ _ _ _ _ us hl => match us, hl with | [_, _, _], _ => rfl
  have gArn := PySem.W.mg_of X G aArn
  have FSpn := fun_mk (st := sIsSpan) lSpn cSpn kSpn
  have bSpn := FSpn.binds (ps := ["part", "nodes"]) fun _ _ _ _ _ _ us hl => match us, hl with | [_, _], _ => rfl
  have gSpn := PySem.W.mg_of X G aSpn
  have FCnt := fun_mk (st := sIsContact) lCnt cCnt kCnt
  have bCnt := FCnt.binds (ps := ["part", "nodes", "movers"]) fun _ _ _ _ _ _ us hl => match us, hl with | [_, _, _], _ => rfl
  have gCnt := PySem.W.mg_of X G aCnt
  have FCls := fun_mk (st := sCloses) lCls cCls kCls
  have bCls := FCls.binds (ps := ["contact", "on"]) fun _ _ _ _ _ _ us hl => match us, hl with | [_, _], _ => rfl
  have gCls := PySem.W.mg_of X G aCls
  have FFed := fun_mk (st := sFed) lFed cFed kFed
  have bFed := FFed.binds (ps := ["board", "state"]) fun _ _ _ _ _ _ us hl => match us, hl with | [_, _], _ => rfl
  have gFed := PySem.W.mg_of X G aFed
  have FFee := fun_mk (st := sFeeds) lFee cFee kFee
  have bFee := FFee.binds (ps := ["board", "state"]) fun _ _ _ _ _ _ us hl => match us, hl with | [_, _], _ => rfl
  have gFee := PySem.W.mg_of X G aFee
  have FSho := fun_mk (st := sIsShort) lSho cSho kSho
  have bSho := FSho.binds (ps := ["board", "state"]) fun _ _ _ _ _ _ us hl => match us, hl with | [_, _], _ => rfl
  have gSho := PySem.W.mg_of X G aSho
  have FMkd := fun_mk (st := sMarked) lMkd cMkd kMkd
  have bMkd := FMkd.binds (ps := ["names", "marks"]) fun _ _ _ _ _ _ us hl => match us, hl with | [_, _], _ => rfl
  have gMkd := PySem.W.mg_of X G aMkd
  have FTur := fun_mk (st := sTurned) lTur cTur kTur
  have bTur := FTur.binds (ps := ["arrows"]) fun _ _ _ _ _ _ us hl => match us, hl with | [_], _ => rfl
  have gTur := PySem.W.mg_of X G aTur
  have FSpr := fun_mk (st := sSpread) lSpr cSpr kSpr
  have bSpr := FSpr.binds (ps := ["start", "arrows", "size"]) fun _ _ _ _ _ _ us hl => match us, hl with | [_, _, _], _ => rfl
  have gSpr := PySem.W.mg_of X G aSpr
  have FRow := fun_mk (st := sLawRow) lRow cRow kRow
  have bRow := FRow.binds (ps := ["cell", "many"]) fun _ _ _ _ _ _ us hl => match us, hl with | [_, _], _ => rfl
  have gRow := PySem.W.mg_of X G aRow
  have FNum := fun_mk (st := sLawNumbers) lNum cNum kNum
  have bNum := FNum.binds (ps := ["script", "many"]) fun _ _ _ _ _ _ us hl => match us, hl with | [_, _], _ => rfl
  have gNum := PySem.W.mg_of X G aNum
  have FNms := fun_mk (st := sLawNames) lNms cNms kNms
  have bNms := FNms.binds (ps := ["number", "other", "many"]) fun _ _ _ _ _ _ us hl => match us, hl with | [_, _, _], _ => rfl
  have gNms := PySem.W.mg_of X G aNms
  have FLoa := fun_mk (st := sLawLoads) lLoa cLoa kLoa
  have bLoa := FLoa.binds (ps := ["numbers", "at", "many", "names", "nodes"]) fun _ _ _ _ _ _ us hl => match us, hl with | [_, _, _, _, _], _ => rfl
  have gLoa := PySem.W.mg_of X G aLoa
  have FLco := fun_mk (st := sLawContact) lLco cLco kLco
  have bLco := FLco.binds (ps := ["numbers", "at", "nodes", "movers"]) fun _ _ _ _ _ _ us hl => match us, hl with | [_, _, _, _], _ => rfl
  have gLco := PySem.W.mg_of X G aLco
  have FBor := fun_mk (st := sLawBoard) lBor cBor kBor
  have bBor := FBor.binds (ps := ["numbers", "big"]) fun _ _ _ _ _ _ us hl => match us, hl with | [_, _], _ => rfl
  have gBor := PySem.W.mg_of X G aBor
  have FMad := fun_mk (st := sLawMade) lMad cMad kMad
  have bMad := FMad.binds (ps := ["spec"]) fun _ _ _ _ _ _ us hl => match us, hl with | [_], _ => rfl
  have gMad := PySem.W.mg_of X G aMad
  have FLmv := fun_mk (st := sLawMovers) lLmv cLmv kLmv
  have bLmv := FLmv.binds (ps := ["spec"]) fun _ _ _ _ _ _ us hl => match us, hl with | [_], _ => rfl
  have gLmv := PySem.W.mg_of X G aLmv
  have FSta := fun_mk (st := sLawState) lSta cSta kSta
  have bSta := FSta.binds (ps := ["spec", "numbers", "at"]) fun _ _ _ _ _ _ us hl => match us, hl with | [_, _, _], _ => rfl
  have gSta := PySem.W.mg_of X G aSta
  have FClo := fun_mk (st := sLawClosed) lClo cClo kClo
  have bClo := FClo.binds (ps := ["spec", "on", "contact"]) fun _ _ _ _ _ _ us hl => match us, hl with | [_, _, _], _ => rfl
  have gClo := PySem.W.mg_of X G aClo
  have FPai := fun_mk (st := sLawPairs) lPai cPai kPai
  have bPai := FPai.binds (ps := ["spec", "on"]) fun _ _ _ _ _ _ us hl => match us, hl with | [_, _], _ => rfl
  have gPai := PySem.W.mg_of X G aPai
  have FRea := fun_mk (st := sLawReach) lRea cRea kRea
  have bRea := FRea.binds (ps := ["spec", "pairs", "start"]) fun _ _ _ _ _ _ us hl => match us, hl with | [_, _, _], _ => rfl
  have gRea := PySem.W.mg_of X G aRea
  have FRes := fun_mk (st := sLawReaches) lRes cRes kRes
  have bRes := FRes.binds (ps := ["spec", "on"]) fun _ _ _ _ _ _ us hl => match us, hl with | [_, _], _ => rfl
  have gRes := PySem.W.mg_of X G aRes
  have FAre := fun_mk (st := sLawAreStrings) lAre cAre kAre
  have bAre := FAre.binds (ps := ["actual", "expected"]) fun _ _ _ _ _ _ us hl => match us, hl with | [_, _], _ => rfl
  have gAre := PySem.W.mg_of X G aAre
  have FLaw := fun_mk (st := sLaw) lLaw cLaw kLaw
  have gLaw := PySem.W.mg_of X G aLaw
  have Y : Txt mg := ⟨PySem.W.mg_none_of X G zabs, PySem.W.mg_none_of X G zint, PySem.W.mg_none_of X G zrange, PySem.W.mg_none_of X G zmax, PySem.W.mg_none_of X G zlist, PySem.W.mg_none_of X G zisinstance, PySem.W.mg_none_of X G zbool, PySem.W.mg_none_of X G zstr, PySem.W.mg_none_of X G zzip⟩
  refine ⟨PySem.W.fnOf "law" "law" (defArgs sLaw) (defBody sLaw) (defScope sLaw) .none kVLaw dcLaw pmLaw anLaw cdLaw ctLaw, fun s v => .of_eq rfl, fun base _ _ => ?_⟩
  have FNIn := fun_mk (st := sNetInit) lNIn cNIn kNIn
  have bNIn := FNIn.binds (ps := ["self", "board"]) fun _ _ _ _ _ _ us hl => match us, hl with | [_, _], _ => rfl
  have FNFd := fun_mk (st := sNetFedNodes) lNFd cNFd kNFd
  have bNFd := FNFd.binds (ps := ["self", "movers"]) fun _ _ _ _ _ _ us hl => match us, hl with | [_, _], _ => rfl
  have FNFe := fun_mk (st := sNetFeedingNodes) lNFe cNFe kNFe
  have bNFe := FNFe.binds (ps := ["self", "movers"]) fun _ _ _ _ _ _ us hl => match us, hl with | [_, _], _ => rfl
  have FNAr := fun_mk (st := sNetArrows) lNAr cNAr kNAr
  have bNAr := FNAr.binds (ps := ["self", "movers"]) fun _ _ _ _ _ _ us hl => match us, hl with | [_, _], _ => rfl
  have TN : NTxt K N := ⟨⟨Npg, Nhd, Npo, Nsa⟩, N1, N2, N3, N4⟩
  have NM : NetM K mg N fNIn fNAr := ⟨PySem.W.mg_of X G aN, ⟨Nmk, aNIn, iNIn, Nkc⟩, ⟨aNAr, iNAr, kNAr⟩, ⟨_, PySem.W.mg_of X G NG1⟩, ⟨_, PySem.W.mg_of X G NG2⟩⟩
  have M : Mk K C fIni := ⟨mk, aIni, iIni, kc⟩
  have GI : FnOk l.prog w K mg base CX0 4 fIni _ ["self", "nodes", "lamps", "switches", "relays", "contacts"] (spInit K C) := ok_init FIni T ⟨⟨aCsp, iCsp, kCsp⟩, ⟨aCnm, iCnm, kCnm⟩, ⟨aCct, iCct, kCct⟩⟩ FCsp bCsp FCnm bCnm FCct bCct FSpn bSpn gSpn FArn bArn gArn FCnt bCnt gCnt FIsn bIsn (fI1 := fSpn) (fI2 := fArn) (fI3 := fCnt)
  have GR : FnOk l.prog w K mg base CX0 1 fRow _ ["cell", "many"] spRow := ok_row FRow Y.abs Y.int Y.range
  have GNu : FnOk l.prog w K mg base CX0 2 fNum _ ["script", "many"] (spNumbers K) := ok_numbers FNum kRow bRow gRow GR Y.max T.len
  have GBo : FnOk l.prog w K mg base CX0 3 fBor _ ["numbers", "big"] (spBoard K) := ok_board FBor FNms bNms gNms FLoa bLoa gLoa FLco bLco gLco Y.int Y.range T.len
  have GMa : FnOk l.prog w K mg base CX0 6 fMad _ ["spec"] (spMade K C) := ok_made FMad M FIni T.mgB Y.list GI
  have GSt : FnOk l.prog w K mg base CX0 5 fSta _ ["spec", "numbers", "at"] (spState K) := ok_state FSta FLmv bLmv gLmv FClo bClo gClo FPai bPai gPai FRea bRea gRea FRes bRes gRes Y.range T.len Y.int T.tup
  have GPa : FnOk l.prog w K mg base CX0 3 fPai _ ["spec", "on"] (spPairs K) := ok_pairs FPai FLmv bLmv gLmv FClo bClo gClo
  have GRe : FnOk l.prog w K mg base CX0 1 fRea _ ["spec", "pairs", "start"] (spReach K) := ok_reach FRea Y.range T.len
  have GNI : FnOk l.prog w K mg base CX0 3 fNIn _ ["self", "board"] (spNetI K C N) := ok_netI FNIn T TN FMov bMov ⟨aMov, uMov, vMov, ⟨_, rMov⟩⟩
  have GFd : FnOk l.prog w K mg base CX0 3 fNFd _ ["self", "movers"] (spFedN K N fedM) := ok_fedN FNFd TN NM FNAr bNAr FCls bCls gCls FSpr bSpr gSpr Y.range
  have GFe : FnOk l.prog w K mg base CX0 3 fNFe _ ["self", "movers"] (spFedN K N feedM) := ok_feedN FNFe TN NM FNAr bNAr FCls bCls gCls FSpr bSpr gSpr Y.range FTur bTur gTur
  have GF : FnOk l.prog w K mg base CX0 5 fFed _ ["board", "state"] (spFed K C fedF) := ok_fed FFed T TN NM bNIn GNI ⟨aNFd, iNFd, kNFd⟩ bNFd GFd FMkd bMkd gMkd Y.zip
  have GG : FnOk l.prog w K mg base CX0 5 fFee _ ["board", "state"] (spFed K C feedF) := ok_feeds FFee T TN NM bNIn GNI ⟨aNFe, iNFe, kNFe⟩ bNFe GFe FMkd bMkd gMkd Y.zip
  have GH : FnOk l.prog w K mg base CX0 5 fSho _ ["board", "state"] (spShort K C) := ok_short FSho T TN NM bNIn GNI ⟨aNFd, iNFd, kNFd⟩ bNFd GFd
  have GAr : FnOk l.prog w K mg base CX0 1 fAre _ ["actual", "expected"] (spAreS K) := ok_areS FAre Y.isi Y.list Y.str T.all
  exact ok_law FLaw Y FNum bNum gNum GNu FBor bBor gBor GBo FMad bMad gMad GMa FSta bSta gSta GSt FPai bPai gPai GPa FRea bRea gRea GRe FFed bFed gFed GF FFee bFee gFee GG FSho bSho gSho GH FAre bAre gAre GAr
end Lv
open PySem PySem.W PyProof.Rows
set_option maxRecDepth 100000 in
set_option maxHeartbeats 0 in
theorem PySem.Challenge.cw_leverhouse_k13_fed_nodes_holds : PySem.Challenge.rw_leverhouse_k13_fed_nodes.Holds := by
  w_on; o_law; k_head; (case hw => w_witness2)
  k_fill
  refine L2.walk_of (l := PySem.Challenge.rw_leverhouse_k13_fed_nodes) (n := 63) (k := 7) (x := "script") (CX := fun _ => L2.CX0) (sp := fun w => Lv.spLaw _) rfl (by decide) rfl ⟨rfl, by decide, by decide⟩ (fun w h Y => PySem.W.kIn_of Y) ?F (fun _ _ a ns hl _ hS => ⟨a, ns, rfl, hS, hl, fun _ => rfl⟩) (fun _ _ _ _ _ h => h)
  case F =>
    intro w mg fa h KX G hmg
    refine' Lv.all_mk KX G hmg ?aC ?pg ?hd ?po ?sa ?mk ?kc ?rd ?ga ?nN ?nS ?nR ?nL ?nC ?nM ?m1 ?m2 ?m3 ?m4 ?m5 ?q1 ?q2 ?q3 ?q4 ?bW ?eW ?bY ?eY ?aCsp ?iCsp ?lCsp ?cCsp ?kCsp ?aCnm ?iCnm ?lCnm ?cCnm ?kCnm ?aCct ?iCct ?lCct ?cCct ?kCct ?aIni ?iIni ?lIni ?cIni ?kIni ?aMov ?uMov ?vMov ?rMov ?lMov ?cMov ?kMov ?aIsn ?lIsn ?cIsn ?kIsn ?aArn ?lArn ?cArn ?kArn ?aSpn ?lSpn ?cSpn ?kSpn ?aCnt ?lCnt ?cCnt ?kCnt ?aCls ?lCls ?cCls ?kCls ?aFed ?lFed ?cFed ?kFed ?aFee ?lFee ?cFee ?kFee ?aSho ?lSho ?cSho ?kSho ?aMkd ?lMkd ?cMkd ?kMkd ?aTur ?lTur ?cTur ?kTur ?aSpr ?lSpr ?cSpr ?kSpr ?aRow ?lRow ?cRow ?kRow ?aNum ?lNum ?cNum ?kNum ?aNms ?lNms ?cNms ?kNms ?aLoa ?lLoa ?cLoa ?kLoa ?aLco ?lLco ?cLco ?kLco ?aBor ?lBor ?cBor ?kBor ?aMad ?lMad ?cMad ?kMad ?aLmv ?lLmv ?cLmv ?kLmv ?aSta ?lSta ?cSta ?kSta ?aClo ?lClo ?cClo ?kClo ?aPai ?lPai ?cPai ?kPai ?aRea ?lRea ?cRea ?kRea ?aRes ?lRes ?cRes ?kRes ?aAre ?lAre ?cAre ?kAre ?aLaw ?lLaw ?cLaw ?kLaw ?zlen ?zall ?ztuple ?zenumerate ?zabs ?zint ?zrange ?zmax ?zlist ?zisinstance ?zbool ?zstr ?zzip ?aN ?Npg ?Nhd ?Npo ?Nsa ?Nmk ?Nkc ?N1 ?N2 ?N3 ?N4 ?NG1 ?NG2 ?aNIn ?iNIn ?lNIn ?cNIn ?kNIn ?aNFd ?iNFd ?lNFd ?cNFd ?kNFd ?aNFe ?iNFe ?lNFe ?cNFe ?kNFe ?aNAr ?iNAr ?lNAr ?cNAr ?kNAr
    (case aC => k_is); (case pg => k_is); (case hd => k_is); (case po => k_is); (case sa => k_is); (case mk => k_is); (case kc => k_is); (case rd => k_is); (case ga => k_is); (case nN => k_is); (case nS => k_is); (case nR => k_is); (case nL => k_is); (case nC => k_is); (case nM => k_is); (case m1 => k_is); (case m2 => k_is); (case m3 => k_is); (case m4 => k_is); (case m5 => k_is); (case q1 => k_is); (case q2 => k_is); (case q3 => k_is); (case q4 => k_is); (case bW => k_is); (case eW => k_is); (case bY => k_is); (case eY => k_is); (case aCsp => k_is); (case iCsp => k_is); (case lCsp => k_is); (case cCsp => k_is); (case kCsp => k_is); (case aCnm => k_is); (case iCnm => k_is); (case lCnm => k_is); (case cCnm => k_is); (case kCnm => k_is); (case aCct => k_is); (case iCct => k_is); (case lCct => k_is); (case cCct => k_is); (case kCct => k_is); (case aIni => k_is); (case iIni => k_is); (case lIni => k_is); (case cIni => k_is); (case kIni => k_is); (case aMov => k_is); (case uMov => k_is); (case vMov => k_is); (case rMov => k_is); (case lMov => k_is); (case cMov => k_is); (case kMov => k_is); (case aIsn => k_is); (case lIsn => k_is); (case cIsn => k_is); (case kIsn => k_is); (case aArn => k_is); (case lArn => k_is); (case cArn => k_is); (case kArn => k_is); (case aSpn => k_is); (case lSpn => k_is); (case cSpn => k_is); (case kSpn => k_is); (case aCnt => k_is); (case lCnt => k_is); (case cCnt => k_is); (case kCnt => k_is); (case aCls => k_is); (case lCls => k_is); (case cCls => k_is); (case kCls => k_is); (case aFed => k_is); (case lFed => k_is); (case cFed => k_is); (case kFed => k_is); (case aFee => k_is); (case lFee => k_is); (case cFee => k_is); (case kFee => k_is); (case aSho => k_is); (case lSho => k_is); (case cSho => k_is); (case kSho => k_is); (case aMkd => k_is); (case lMkd => k_is); (case cMkd => k_is); (case kMkd => k_is); (case aTur => k_is); (case lTur => k_is); (case cTur => k_is); (case kTur => k_is); (case aSpr => k_is); (case lSpr => k_is); (case cSpr => k_is); (case kSpr => k_is); (case aRow => k_is); (case lRow => k_is); (case cRow => k_is); (case kRow => k_is); (case aNum => k_is); (case lNum => k_is); (case cNum => k_is); (case kNum => k_is); (case aNms => k_is); (case lNms => k_is); (case cNms => k_is); (case kNms => k_is); (case aLoa => k_is); (case lLoa => k_is); (case cLoa => k_is); (case kLoa => k_is); (case aLco => k_is); (case lLco => k_is); (case cLco => k_is); (case kLco => k_is); (case aBor => k_is); (case lBor => k_is); (case cBor => k_is); (case kBor => k_is); (case aMad => k_is); (case lMad => k_is); (case cMad => k_is); (case kMad => k_is); (case aLmv => k_is); (case lLmv => k_is); (case cLmv => k_is); (case kLmv => k_is); (case aSta => k_is); (case lSta => k_is); (case cSta => k_is); (case kSta => k_is); (case aClo => k_is); (case lClo => k_is); (case cClo => k_is); (case kClo => k_is); (case aPai => k_is); (case lPai => k_is); (case cPai => k_is); (case kPai => k_is); (case aRea => k_is); (case lRea => k_is); (case cRea => k_is); (case kRea => k_is); (case aRes => k_is); (case lRes => k_is); (case cRes => k_is); (case kRes => k_is); (case aAre => k_is); (case lAre => k_is); (case cAre => k_is); (case kAre => k_is); (case aLaw => k_is); (case lLaw => k_is); (case cLaw => k_is); (case kLaw => k_is); (case zlen => k_is); (case zall => k_is); (case ztuple => k_is); (case zenumerate => k_is); (case zabs => k_is); (case zint => k_is); (case zrange => k_is); (case zmax => k_is); (case zlist => k_is); (case zisinstance => k_is); (case zbool => k_is); (case zstr => k_is); (case zzip => k_is); (case aN => k_is); (case Npg => k_is); (case Nhd => k_is); (case Npo => k_is); (case Nsa => k_is); (case Nmk => k_is); (case Nkc => k_is); (case N1 => k_is); (case N2 => k_is); (case N3 => k_is); (case N4 => k_is); (case NG1 => k_is); (case NG2 => k_is); (case aNIn => k_is); (case iNIn => k_is); (case lNIn => k_is); (case cNIn => k_is); (case kNIn => k_is); (case aNFd => k_is); (case iNFd => k_is); (case lNFd => k_is); (case cNFd => k_is); (case kNFd => k_is); (case aNFe => k_is); (case iNFe => k_is); (case lNFe => k_is); (case cNFe => k_is); (case kNFe => k_is); (case aNAr => k_is); (case iNAr => k_is); (case lNAr => k_is); (case cNAr => k_is); (case kNAr => k_is)

