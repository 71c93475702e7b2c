import PyProof.Rows.All
import Wide.All
import OpenK.AllK
import Wide.FinOn
import HandS.ForMost
import HandS.IsInst
import HandS.Walk
import HandS.TupAny
import HandS.Property
import HandS.ClsMeth
import HandS.MakeKwOnly
import HandS.Star
import KE.GoesEnum
import KE.GoesMore
import PySem.Challenge.RW_leverhouse_k06_written_form
set_option Elab.async false
set_option linter.all false
set_option maxRecDepth 100000
set_option maxHeartbeats 1000000
namespace Lv
open PySem PySem.Spec PyProof.Rows L2
def topS (i : Nat) : Stmt := PySem.Challenge.pw_leverhouse_k06_written_form.main.body.getD i (.Pass ⟨0, 0, 0, 0⟩)
abbrev sWall : Stmt := topS 0
abbrev sUnknownNumberInit : Stmt := inClass (topS 4) 0
abbrev sIsGoodName : Stmt := topS 12
abbrev sAreNames : Stmt := topS 13
abbrev sIsSpan : Stmt := topS 14
abbrev sIsContact : Stmt := topS 15
abbrev sCheckNumber : Stmt := topS 16
abbrev sBoardInit : Stmt := inClass (topS 17) 5
abbrev sBoardCheckSpans : Stmt := inClass (topS 17) 6
abbrev sBoardCheckNames : Stmt := inClass (topS 17) 7
abbrev sBoardCheckContacts : Stmt := inClass (topS 17) 8
abbrev sBoardIsName : Stmt := inClass (topS 17) 9
abbrev sBoardPlus : Stmt := inClass (topS 17) 10
abbrev sBoardMinus : Stmt := inClass (topS 17) 11
abbrev sBoardMovers : Stmt := inClass (topS 17) 12
abbrev sBoardMoverNumber : Stmt := inClass (topS 17) 13
abbrev sBoardIsSwitch : Stmt := inClass (topS 17) 14
abbrev sBoardContactsOf : Stmt := inClass (topS 17) 15
abbrev sBoardContactsAt : Stmt := inClass (topS 17) 16
abbrev sBoardWires : Stmt := inClass (topS 17) 17
abbrev sBoardReplaceContact : Stmt := inClass (topS 17) 18
abbrev sBoardInsertContact : Stmt := inClass (topS 17) 19
abbrev sBoardWithoutContact : Stmt := inClass (topS 17) 20
abbrev sBoardWithContacts : Stmt := inClass (topS 17) 21
abbrev sFormatBoard : Stmt := topS 20
abbrev sLawRow : Stmt := topS 22
abbrev sLawNumbers : Stmt := topS 23
abbrev sLawNames : Stmt := topS 24
abbrev sLawCount : Stmt := topS 25
abbrev sLawTwo : Stmt := topS 26
abbrev sLawContact : Stmt := topS 27
abbrev sLawLoads : Stmt := topS 28
abbrev sLawParts : Stmt := topS 29
abbrev sLawMade : Stmt := topS 30
abbrev sLawSame : Stmt := topS 31
abbrev sLawLines : Stmt := topS 32
abbrev sLaw : Stmt := topS 33

/-! ### strings and numbers -/
def alph : List Nat := ("abcdefghijklmnopqrstuvwxyz0123456789" : Str).cps.toList
theorem alph_len : alph.length = 36 := by decide +kernel
theorem alph_lt : ∀ c ∈ alph, c < 1114112 := by decide +kernel
/-- letters and figures alone -/
def Al (z : Str) : Prop := ∀ c ∈ z.cps.toList, c ∈ alph
/-- a name: 1 to 12 letters and figures -/
def Nm (z : Str) : Prop := 1 ≤ z.length ∧ z.length ≤ 12 ∧ Al z
def Nums (ns : List Int) : Prop := ∀ n ∈ ns, 0 ≤ n ∧ n < 1009
theorem len_tl (z : Str) : z.length = z.cps.toList.length := by
  show z.cps.size = z.cps.toList.length
  rw [Array.length_toList]
theorem app_tl (a b : Str) : (a ++ b).cps.toList = a.cps.toList ++ b.cps.toList := by
  show (a.cps ++ b.cps).toList = _
  rw [Array.toList_append]
theorem app_len (a b : Str) : (a ++ b).length = a.length + b.length := by
  rw [len_tl, len_tl, len_tl, app_tl, List.length_append]
theorem Al.app {a b : Str} (h1 : Al a) (h2 : Al b) : Al (a ++ b) := by
  intro c hc
  rw [app_tl, List.mem_append] at hc
  rcases hc with hc | hc
  · exact h1 c hc
  · exact h2 c hc
theorem Al.ok {z : Str} (h : Al z) : PyData.strOk z = true := by
  unfold PyData.strOk
  rw [← Array.all_toList, List.all_eq_true]
  intro c hc
  exact decide_eq_true (alph_lt c (h c hc))
theorem str_ext {a b : Str} (h : a.cps.toList = b.cps.toList) : a = b := by
  cases a; cases b
  exact congrArg Str.mk (Array.toList_inj.mp h)
theorem cut_take (z : Str) (p : Nat) : (cutS z none (some (p : Int))).cps.toList = z.cps.toList.take p := by
  unfold cutS
  rw [HT.sIx_nat, HT.sIx_none, List.drop_zero, Nat.sub_zero, len_tl]
  show (List.take (min p z.cps.toList.length) z.cps.toList).toArray.toList = _
  exact List.take_eq_take_min.symm
theorem cut_drop (z : Str) (p : Nat) : (cutS z (some (p : Int)) none).cps.toList = z.cps.toList.drop p := by
  unfold cutS
  rw [HT.sIx_nat, HT.sIx_none, len_tl]
  show (List.take (z.cps.toList.length - min p z.cps.toList.length) (List.drop (min p z.cps.toList.length) z.cps.toList)).toArray.toList = _
  by_cases h : p ≤ z.cps.toList.length
  · rw [Nat.min_eq_left h]
    exact List.take_of_length_le (by rw [List.length_drop]; exact Nat.le_refl _)
  · rw [Nat.min_eq_right (by omega), List.drop_length, List.drop_eq_nil_of_le (by omega)]
    simp
theorem join_ok : ∀ zs : List Str, (∀ z ∈ zs, z.length = 1 ∧ Al z) → (Str.join "" zs).length = zs.length ∧ Al (Str.join "" zs)
  | [], _ => ⟨rfl, fun c hc => by cases hc⟩
  | [x], h => ⟨(h x (List.mem_singleton.mpr rfl)).1, (h x (List.mem_singleton.mpr rfl)).2⟩
  | x :: y :: r, h => by
    have ih := join_ok (y :: r) fun z hz => h z (List.mem_cons_of_mem _ hz)
    have hx := h x List.mem_cons_self
    have e0 : ("" : Str).length = 0 := by decide +kernel
    have a0 : Al ("" : Str) := fun c hc => by cases hc
    show (x ++ ("" : Str) ++ Str.join "" (y :: r)).length = _ ∧ Al (x ++ ("" : Str) ++ Str.join "" (y :: r))
    refine ⟨?_, (hx.2.app a0).app ih.2⟩
    rw [app_len, app_len, hx.1, e0, ih.1]
    show 1 + 0 + (y :: r).length = (y :: r).length + 1
    omega
theorem at_in {α : Type} (xs : List α) (i : Int) (h0 : 0 ≤ i) (h1 : i < (xs.length : Int)) : ∃ v, v ∈ xs ∧ xs[i.toNat]? = some v ∧ atI xs i = some v := by
  have hl : i.toNat < xs.length := by omega
  refine ⟨xs[i.toNat], List.getElem_mem hl, List.getElem?_eq_getElem hl, ?_⟩
  have e := atI_nat (xs := xs) (j := i.toNat) (List.getElem?_eq_getElem hl)
  rwa [Int.toNat_of_nonneg h0] at e
theorem at_num {ns : List Int} (hn : Nums ns) (i : Int) (h0 : 0 ≤ i) (h1 : i < (ns.length : Int)) : ∃ n, 0 ≤ n ∧ n < 1009 ∧ atI (ns.map V.int) i = some (.int n) := by
  obtain ⟨v, hv, _, e⟩ := at_in (ns.map V.int) i h0 (by rw [List.length_map]; exact h1)
  obtain ⟨n, hm, rfl⟩ := List.mem_map.mp hv
  exact ⟨n, (hn n hm).1, (hn n hm).2, e⟩
theorem Nums.snoc {ns : List Int} (h : Nums ns) {n : Int} (h0 : 0 ≤ n) (h1 : n < 1009) : Nums (ns ++ [n]) := by
  intro m hm
  rw [List.mem_append, List.mem_singleton] at hm
  rcases hm with hm | rfl
  · exact h m hm
  · exact ⟨h0, h1⟩
/-! ### heaps -/
theorem same_upd {H : Hp} {p : Addr} {o : HO} (h : H p = none) : Same H (upd H p o) := fun b x e => by
  rw [upd_ne (ne_of_none e h)]
  exact e
/-- what H does not know may change -/
theorem same_mut {H H2 : Hp} {p : Addr} {o : HO} (s : Same H H2) (h : H p = none) : Same H (upd H2 p o) := fun b x e => by
  rw [upd_ne (ne_of_none e h)]
  exact s _ _ e
theorem sq {K : PySem.W.Frag} {H : Hp} {a : Addr} {xs : List V} (h : H a = some (.lst xs)) : SqL K H a xs := .inl (.inl h)
theorem st {K : PySem.W.Frag} {H : Hp} {a : Addr} {xs : List V} (h : H a = some (.tup xs)) : SqT K H a xs := .inl (.inl h)
theorem szl {n : Nat} (h : n ≤ 1000000) : n ≤ sizeLine := Nat.le_trans h (by decide)
theorem szlt {n : Nat} (h : n ≤ 1000000) : n < sizeLine := Nat.lt_of_le_of_lt h (by decide)
theorem map_snoc {α β : Type} (f : α → β) (xs : List α) (x : α) : (xs ++ [x]).map f = xs.map f ++ [f x] := by
  rw [List.map_append]
  rfl
theorem cut_list (xs : List V) (n : Nat) : cutV xs none (some (n : Int)) = xs.take n := by
  unfold cutV
  rw [HT.sIx_nat, HT.sIx_none, List.drop_zero, Nat.sub_zero, ← List.take_eq_take_min]
theorem yesT {σ : L2.St} {H : Hp} {A B : Hp → Prop} (h : A H) : tYes σ H (fun b H3 => if b = true then A H3 else B H3) := by
  show (if true = true then A H else B H)
  rw [if_pos rfl]
  exact h
/-! ### enumerate of a tuple -/
/-- the turns: the place and the item, in a new pair -/
def ItU (K : PySem.W.Frag) (a : Addr) : It :=
  ⟨fun i H => ∃ (xs : List V) (x : V), SqT K H a xs ∧ xs[i]? = some x, fun i H v G => ∃ T x, v = .ref T ∧ H T = none ∧ G = upd H T (.tup [.int (i : Nat), x]) ∧ ∀ xs, SqT K H a xs → xs[i]? = some x,
    fun i H => ∃ xs : List V, SqT K H a xs ∧ xs.length ≤ i⟩
theorem newU {v : Value} {o : Obj} {J : Heap → Prop} (B : Begins v o J) :
    Meets (Builtin.«enumerate.__new__» ⟨[.type "enumerate", v], []⟩) (fun _ R z => J z.heap ∧
      R (.ok (.ret (.ref (z.heap.push o).objs.size))) { z with heap := (z.heap.push o).push { cls := .type "enumerate", data := .fields #[.none, .bool false, .ref z.heap.objs.size, rawInt 0, .none, .none] } }) :=
  .of_wp fun prog wd A R z hz => by
    obtain ⟨hp, gn, dr, tk, os⟩ := z
    obtain ⟨j1, hr⟩ := hz
    have hsub := sub_enumerate
    have q1 : ∀ {B' : Around} {E2 : Value → Shared → Prop} {Q2 : Value → Shared → Prop}, Q2 (.ref hp.objs.size) ⟨hp.push o, gn, dr, tk, os⟩ → wpAny (model prog wd) B' (pyIter v) Q2 E2 ⟨hp, gn, dr, tk, os⟩ :=
      fun y => B.iter prog wd _ _ ⟨hp, gn, dr, tk, os⟩ _ j1 y
    wp_walk using q1
    refine wpAny_stack_any fun _ => wpAny_pure ?_
    split
    · rename_i c _ _ _ _ _
      cases (c == Value.type "enumerate") <;> (wp_walk using q1; exact ⟨_, rfl, hr⟩)
    · wp_walk using q1
      exact ⟨_, rfl, hr⟩
theorem callU {prog : Program} {wd : World} {A : Around} {E : Value → Shared → Prop} {z : Shared} {v : Value} {o : Obj} {J : Heap → Prop} {Q : Value → Shared → Prop} (B : Begins v o J) (j1 : J z.heap)
    (hq : ∀ g, IsEnum g (z.heap.objs.size + 1) z.heap.objs.size 0 .none → g.get? z.heap.objs.size = some o → (∀ b u, z.heap.get? b = some u → g.get? b = some u) → Q (.ref (z.heap.objs.size + 1)) { z with heap := g }) :
    wpAny (model prog wd) A (call (.type "enumerate") [v]) Q E z := by
  refine callType_new F.called_enumerate (by decide) (F.typeCall_enumerate_1 _) (F.newCall_enumerate_1 _) (fun ob => F.args_object_init_2 ob _) F.entry_enumerate_new (newU B) ⟨j1, ?_⟩
  have hsz : (z.heap.push o).objs.size = z.heap.objs.size + 1 := Heap.size_push ..
  show _ ∧ _
  rw [hsz]
  have hen : IsEnum ((z.heap.push o).push { cls := .type "enumerate", data := .fields #[.none, .bool false, .ref z.heap.objs.size, rawInt 0, .none, .none] }) (z.heap.objs.size + 1) z.heap.objs.size 0 .none := by
    have y := Heap.get?_push_size (z.heap.push o) (o := { cls := .type "enumerate", data := .fields #[.none, .bool false, .ref z.heap.objs.size, rawInt 0, .none, .none] }) rfl
    rwa [hsz] at y
  exact ⟨⟨_, hen, rfl⟩, hq _ hen (Heap.get?_push_of_some _ (Heap.get?_push_size _ B.free)) fun _ _ y => Heap.get?_push_of_some _ (Heap.get?_push_of_some _ y)⟩
theorem turnU {P : Program} {w : World} {K : PySem.W.Frag} {elts : List Expr} {kk : Nat} {tpos : Pos} (a e it : Addr) :
    Turn P w K (.Tuple elts kk tpos) (ItU K a) [e, it] e (fun i g => (∃ old, IsEnum g e it ((i : Nat) : Int) old) ∧ g.IsTupleIter it a i ∧ e ≠ it) where
  mem := by simp
  obj := fun i g y b hb => by
    obtain ⟨⟨old, he⟩, ⟨o, ho, _, hd⟩, _⟩ := y
    rcases (show b = e ∨ b = it by simpa using hb) with q | q
    · subst q
      exact ⟨_, he, fun v z => nomatch z⟩
    · subst q
      exact ⟨o, ho, fun v z => by rw [hd] at z; cases z⟩
  keep := fun i g g' y k => ⟨y.1.elim fun old he => ⟨old, k e (by simp) _ he⟩, y.2.1.at fun o q => k it (by simp) o q, y.2.2⟩
  item := by
    intro X hP hw hK hc i pins z σ H E I hf y hg
    subst hP hw hK
    obtain ⟨⟨old, he⟩, hit, hne⟩ := y
    obtain ⟨xs, x, hq, hx⟩ := hg
    obtain ⟨its, rv, tp, _⟩ := I.tuple hq
    obtain ⟨u, hu, ru⟩ := rv.get hx
    have hel : e < z.heap.objs.size := Heap.lt_size he
    have hil : it < z.heap.objs.size := by
      obtain ⟨_, q, _⟩ := hit
      exact Heap.lt_size q
    have hae : a ≠ e := fun q => by
      obtain ⟨o1, e1, e2, _⟩ := tp
      rw [q, he] at e1
      cases e1
      injection e2 with e5
      exact absurd e5 (by decide)
    have hai : a ≠ it := fun q => by
      obtain ⟨o1, e1, e2, _⟩ := tp
      obtain ⟨o3, e3, e4, _⟩ := hit
      rw [q, e3] at e1
      cases e1
      rw [e4] at e2
      injection e2 with e5
      exact absurd e5 (by decide)
    have lt : i < its.toArray.size := by
      have := (List.getElem?_eq_some_iff.mp hu).1
      simpa using this
    refine wpAny_pyNext_enum_itemC (Draws.tuple (prog := X.prog) (w := X.w) (A := X.A.in1) (I.ok.hd hc) it a hai its.toArray) he ⟨hit, tp⟩ lt hne (by simp [hne, hae.symm]) fun v g tk hv ho hs' hT hsz hk => ?_
    have ev : v = u := by
      rw [show its.toArray[i]? = some u by simpa using hu] at hv
      exact (Option.some.inj hv).symm
    subst ev
    refine ⟨_, rfl, wpAny_letOwnedTupleGo_enum (s := { z with heap := g, toks := tk + 1 }) ho fun g2 he2 sb => ?_⟩
    have hT2 : g2.get? z.heap.objs.size = some { cls := .type "tuple", data := .seq #[.int i tk, v] } := (sb.2 _ (Nat.ne_of_gt hel)).trans hT
    have nw : ObjOk X.prog X.w (upd H z.heap.objs.size (.tup [.int (i : Nat), x])) g2 z.heap.objs.size (.tup [.int (i : Nat), x]) :=
      ⟨by show 2 ≤ sizeLine; decide, [.int i tk, v], .cons ⟨_, rfl⟩ (.cons ru .nil), ⟨_, hT2, rfl, _, rfl⟩⟩
    have I1 : Inv X pins σ (upd H z.heap.objs.size (.tup [.int (i : Nat), x])) { z with heap := g2, toks := tk + 1 } :=
      I.turnedNew (ch := [e, it]) (fun b ob hb q => (sb.2 b (fun m => hb (by simp [m]))).trans (hk b ob (fun m => hb (by simp [m])) (fun m => hb (by simp [m])) q)) hf (Nat.le_refl _) nw
    refine ⟨.ref z.heap.objs.size, _, I1, rfl, ⟨_, x, rfl, I.hok.fresh (Nat.le_refl _), rfl, fun ys hy => by rw [I.tuple_inj hy hq]; exact hx⟩, ⟨⟨v, ?_⟩, hs'.1.at fun o q => (sb.2 it (Ne.symm hne)).trans q, hne⟩, fun b hb => ?_⟩
    · rw [show ((i + 1 : Nat) : Int) = (i : Int) + 1 by omega]
      exact he2
    · have lb : b < z.heap.objs.size := by
        rcases (show b = e ∨ b = it by simpa using hb) with q | q
        · rw [q]; exact hel
        · rw [q]; exact hil
      rw [upd_ne (Nat.ne_of_lt lb)]
      exact (hf b hb).1
  done := by
    intro X hP hw hK hc i pins z σ H E I hf y hg
    subst hP hw hK
    obtain ⟨⟨old, he⟩, hit, hne⟩ := y
    obtain ⟨xs, hq, hx⟩ := hg
    obtain ⟨its, rv, tp, _⟩ := I.tuple hq
    obtain ⟨f0, f1, f2, f3, f4, f5⟩ := hf it (by simp)
    have hT : z.TypeIs (.ref e) "enumerate" := ⟨_, he, rfl⟩
    unfold pyNext
    refine wpAny_bind (wpAny_attempt (wpAny_callSpecial?_slot (name := Str.ofString "__next__") hT F.slot_enumerate_next (wpAny_call_entry F.slot_enumerate_next hT F.entry_enumerate_next ?_ (F.args_enumerate_next_1 _))))
    show wpAny _ _ (field (.ref e) 2 >>= _) _ _ _
    refine wpAny_bind (wpAny_field he rfl (x := .ref it) rfl ?_)
    refine wpAny_bind (wpAny_nextOf_tuple_end (I.ok.hd hc) hit tp (by
      have hl := rv.length
      simp
      omega) fun g x eb hx' => ?_)
    obtain ⟨o, ho, hcl⟩ := hx'
    refine wpAny_bind (wpAny_isInstance (T := "StopIteration") (b := true) ⟨o, ho, hcl⟩ isSubtype_stop ?_)
    exact wpAny_pure ⟨rfl, I.turned (t' := z.toks) (fun b o hb q => eb b o hb q) f0 f1 f3 f4 f5⟩
  self := fun _ _ _ _ _ y q => y.1.elim fun _ he => wpAny_pyIter_enum he q
def iEnumT (K : PySem.W.Frag) (ta : TA) : TI := fun σ H R => ta σ H fun vs H1 => ∃ a xs, vs = [.ref a] ∧ SqT K H1 a xs ∧ R (ItU K a) H1
theorem pi_enumT {X : Cx} {e : Expr} {ta : TA} {p pos tpos : Pos} {elts : List Expr} {kk : Nat} (hg : Gl X "enumerate") (hm : X.mg "enumerate" = none) (ha : PA X [e] ta) (hs : starEach [e] X.env = [(false, eval e X.env)] := by rfl) :
    PI X (.Tuple elts kk tpos) (.Call (.Name "enumerate" p) [e] [] pos) (iEnumT X.K ta) := by
  refine ⟨fun pins z σ H R I h => ?_⟩
  refine Call_ (ld_blt I hg hm boot_enumerate (PyProof.Rows.callWith_type1 (thn (ha.run pos pins z σ H _ I h) fun us z1 ⟨vs, H1, I1, r1, q1⟩ => ?_) hs rfl))
  obtain ⟨a, xs, ex, hq, q⟩ := q1
  subst ex
  cases r1 with
  | cons r rr =>
    cases rr
    cases r
    obtain ⟨its, rv, tp, _⟩ := I1.tuple hq
    refine callU (begins_tuple a its.toArray) tp fun g he hit hk => wpAny_pyIter_enum he ?_
    have I2 : Inv X pins σ H1 { z1 with heap := g } := I1.kept (t' := z1.toks) hk
    refine ⟨z1.heap.objs.size + 1, [z1.heap.objs.size + 1, z1.heap.objs.size], _, _, H1, rfl, I2, turnU a (z1.heap.objs.size + 1) z1.heap.objs.size, ⟨⟨.none, he⟩, ⟨_, hit, rfl, rfl⟩, Nat.succ_ne_self _⟩, fun b hb => ?_, q⟩
    have lb : z1.heap.objs.size ≤ b := by
      rcases (show b = z1.heap.objs.size + 1 ∨ b = z1.heap.objs.size by simpa using hb) with m | m
      · rw [m]; exact Nat.le_add_right _ _
      · rw [m]; exact Nat.le_refl _
    exact I1.fpOk lb (I1.hok.fresh lb)
theorem walk_enumT {K : PySem.W.Frag} {a : Addr} {xs : List V} : Walk (ItU K a) xs.length (fun H => SqT K H a xs) (YPair (fun i => some (.int (i : Nat))) (fun i => xs[i]?)) := by
  refine ⟨fun i _ hi q => ⟨xs, xs[i], q, by simp [hi]⟩, fun _ q => ⟨xs, q, Nat.le_refl _⟩, fun i H v G _ q y => ?_⟩
  obtain ⟨T, x, h1, h2, h3, h4⟩ := y
  exact ⟨T, .int (i : Nat), x, h1, h2, h3, rfl, h4 xs q⟩
/-! ### a staticmethod called off its class -/
structure SMet (K : PySem.W.Frag) (C : Addr) (mc : Value) (m : Str) (p g : Addr) : Prop where
  rd : PySem.W.readsIn K C mc = true
  ga : PySem.W.specialIn K (.ref C) "__getattribute__" = some (some (.builtin "type.__getattribute__"))
  at_ : PySem.W.findCls K (.ref C) mc m = some (.get (.builtin "staticmethod.__get__") (.ref p) .none (.ref C))
  rc : ∃ rest, PySem.W.recIn K p "staticmethod" = some (.ref g :: rest)
  kp : PySem.W.keepIn K (.ref g) = true
def tSMeth (C : Addr) (sp : Sp) (E : XK) (ta : TE) (t : TA) : TE := fun σ H Q => ta σ H fun x H1 => x = .ref C ∧ t σ H1 fun vs H2 => sp vs H2 Q E
theorem pe_smeth {X : Cx} {CX : CXT} {k : Nat} {C p g : Addr} {mc : Value} {fd : FuncData} {ps : List Str} {sp : Sp} {E : XK} {o e : Expr} {es : List Expr} {m : Str} {pos apos : Pos} {ta : TE} {t : TA} {pl : Sem Bool}
    (he : PE X o ta) (c : SMet X.K C mc m p g) (F : FnOk X.prog X.w X.K X.mg X.base CX k g fd ps sp) (hr : Room k X.A) (hb : Binds X.K fd ps []) (hx : Passes CX X E) (ha : PA X (e :: es) t)
    (hst : starEach (e :: es) X.env = (false, eval e X.env) :: starEach es X.env := by rfl) (hpl : (backTo pos (starEach es X.env)).any (·.1) = false := by rfl)
    (ht : eval (.Call (.Attribute o m apos) (e :: es) [] pos) X.env = (do let ov ← eval o X.env; standAt apos.atName; let (f, first) ← holding [ov] (getMethod ov m pl); callWith pos f first (backTo pos (starEach (e :: es) X.env)) (backToKw pos (keywordEach [] X.env))) := by rfl) :
    PE X (.Call (.Attribute o m apos) (e :: es) [] pos) (tSMeth C sp E ta t) := by
  refine ⟨fun pins z σ H Q I h => PySem.W.methodCall_KW (pl := pl) (thn (he.run pins z σ H _ I h) fun u z1 ⟨x, H1, I1, rx, ex, q⟩ => ?_) ht⟩
  subst ex
  obtain rfl : u = Value.ref C := rx
  obtain ⟨rest, hp⟩ := c.rc
  refine PySem.W.method_cls I1.kIn c.ga (PySem.W.cls_bind I1.kIn c.rd c.at_ (wpAny_call (PySem.W.sm_get (s := { z1 with toks := z1.toks + 1 }) I1.kIn hp (PySem.W.handed_on rfl ?_))))
  have I2 : Inv X pins σ H1 { z1 with toks := z1.toks + 1 } := I1.tok _
  refine PySem.W.callWith_K (first := []) (h₀ := X.base) I.ok.mod.kin c.kp (thn (ha.run pos pins _ σ H1 _ I2 q) fun us z2 ⟨vs, H2, I3, r, q2⟩ => ⟨I3.kIn, ?_⟩) hst hpl
  exact run_fn (us := us) (vs := vs) (dvs := []) (ds := []) F hr hb .nil hx I3 r (by rw [List.append_nil]; exact q2)
/-! ### a list or a tuple -/
def Sq (K : PySem.W.Frag) (H : Hp) (a : Addr) (xs : List V) : Prop := SqL K H a xs ∨ SqT K H a xs
theorem Same.sqt {K : PySem.W.Frag} {H H' : Hp} {a : Addr} {xs : List V} (e : Same H H') (h : SqT K H a xs) : SqT K H' a xs := by
  rcases h with (h | ⟨o, h⟩) | h
  · exact .inl (.inl (e _ _ h))
  · exact .inl (.inr ⟨o, e _ _ h⟩)
  · exact .inr h
theorem Same.sq {K : PySem.W.Frag} {H H' : Hp} {a : Addr} {xs : List V} (e : Same H H') (h : Sq K H a xs) : Sq K H' a xs := h.elim (fun z => .inl (e.seq z)) fun z => .inr (Same.sqt e z)
def iEnumA (K : PySem.W.Frag) (ta : TA) : TI := fun σ H R => ta σ H fun vs H1 => ∃ a xs, vs = [.ref a] ∧ ((SqL K H1 a xs ∧ R (Ite K a) H1) ∨ (SqT K H1 a xs ∧ R (ItU K a) H1))
theorem pi_enumA {X : Cx} {e : Expr} {ta : TA} {p pos tpos : Pos} {elts : List Expr} {kk : Nat} (hg : Gl X "enumerate") (hm : X.mg "enumerate" = none) (ha : PA X [e] ta) (hs : starEach [e] X.env = [(false, eval e X.env)] := by rfl) :
    PI X (.Tuple elts kk tpos) (.Call (.Name "enumerate" p) [e] [] pos) (iEnumA X.K ta) := by
  refine ⟨fun pins z σ H R I h => ?_⟩
  refine Call_ (ld_blt I hg hm boot_enumerate (PyProof.Rows.callWith_type1 (thn (ha.run pos pins z σ H _ I h) fun us z1 ⟨vs, H1, I1, r1, q1⟩ => ?_) hs rfl))
  obtain ⟨a, xs, ex, hq⟩ := q1
  subst ex
  cases r1 with
  | cons r rr =>
    cases rr
    cases r
    have fp : ∀ b ∈ [z1.heap.objs.size + 1, z1.heap.objs.size], FpOk X pins H1 b := fun b hb => by
      have lb : z1.heap.objs.size ≤ b := by
        rcases (show b = z1.heap.objs.size + 1 ∨ b = z1.heap.objs.size by simpa using hb) with m | m
        · rw [m]; exact Nat.le_add_right _ _
        · rw [m]; exact Nat.le_refl _
      exact I1.fpOk lb (I1.hok.fresh lb)
    rcases hq with ⟨hq, q⟩ | ⟨hq, q⟩
    · obtain ⟨its, rv, tp, _⟩ := I1.list hq
      refine callU (begins_list a its.toArray) tp.isList fun g he hit hk => wpAny_pyIter_enum he ?_
      have I2 : Inv X pins σ H1 { z1 with heap := g } := I1.kept (t' := z1.toks) hk
      exact ⟨z1.heap.objs.size + 1, [z1.heap.objs.size + 1, z1.heap.objs.size], _, _, H1, rfl, I2, turn_enum a (z1.heap.objs.size + 1) z1.heap.objs.size, ⟨⟨.none, he⟩, ⟨_, hit, rfl, rfl⟩, Nat.succ_ne_self _⟩, fp, q⟩
    · obtain ⟨its, rv, tp, _⟩ := I1.tuple hq
      refine callU (begins_tuple a its.toArray) tp fun g he hit hk => wpAny_pyIter_enum he ?_
      have I2 : Inv X pins σ H1 { z1 with heap := g } := I1.kept (t' := z1.toks) hk
      exact ⟨z1.heap.objs.size + 1, [z1.heap.objs.size + 1, z1.heap.objs.size], _, _, H1, rfl, I2, turnU a (z1.heap.objs.size + 1) z1.heap.objs.size, ⟨⟨.none, he⟩, ⟨_, hit, rfl, rfl⟩, Nat.succ_ne_self _⟩, fp, q⟩
def rSlB (K : PySem.W.Frag) : V → Option Int → Option Int → Hp → VK → Prop := fun x lo hi H Q => rSlL K x lo hi H Q ∨ rSlA K x lo hi H Q
theorem sl_any {X : Cx} : SlR X (rSlB X.K) := by
  intro pins z σ H x v vl vu lo hi sl Q I rx hs pl pu h
  rcases h with h | h
  · exact sl_list pins z σ H x v vl vu lo hi sl Q I rx hs pl pu h
  · exact sl_tupA pins z σ H x v vl vu lo hi sl Q I rx hs pl pu h
/-- what a slice hands on, in both cases: a list or tuple of the part -/
theorem cut_any {K : PySem.W.Frag} {a : Addr} {xs : List V} {lo hi : Option Int} {H : Hp} {Q : VK} (h : Sq K H a xs) (q : ∀ p H', Same H H' → Sq K H' p (cutV xs lo hi) → (∀ b, H b ≠ none → H' b = H b) → Q (.ref p) H') : rSlB K (.ref a) lo hi H Q := by
  rcases h with h | h
  · exact .inl ⟨a, xs, rfl, h, fun p np => q p _ (same_upd np) (.inl (sq upd_same)) fun b hb => upd_ne fun e => hb (e ▸ np)⟩
  · refine .inr ⟨a, xs, rfl, h, fun ⟨e1, e2⟩ => q a H (Same.refl H) (.inr ?_) fun _ _ => rfl, fun _ p np => q p _ (same_upd np) (.inr (st upd_same)) fun b hb => upd_ne fun e => hb (e ▸ np)⟩
    unfold cutV
    rw [e1, e2, List.drop_zero, Nat.sub_zero, List.take_length]
    exact h
/-- x in xs -/
theorem inV_str (x : Str) (xs : List Str) : inV (.str x) (xs.map V.str) = decide (x ∈ xs) := by
  unfold inV
  induction xs with
  | nil => rfl
  | cons y r ih =>
    rw [List.map_cons, List.any_cons, ih]
    show (y == x || decide (x ∈ r)) = decide (x ∈ y :: r)
    by_cases e : y = x
    · subst e
      simp
    · have e2 : ¬ x = y := fun z => e z.symm
      simp [e, e2]
theorem flat_strs (xs : List Str) : (xs.map V.str).all flatV = true := by
  rw [List.all_eq_true]
  intro v hv
  obtain ⟨z, _, rfl⟩ := List.mem_map.mp hv
  rfl
/-! ### a for over a list or a tuple -/
def iSeqA (K : PySem.W.Frag) (tl : TE) : TI := fun σ H R => tl σ H fun x H1 => ∃ a xs, x = .ref a ∧ ((SqL K H1 a xs ∧ R (Itl K a) H1) ∨ (SqT K H1 a xs ∧ R (Itt K a) H1))
theorem pi_seqA {X : Cx} {tg l : Expr} {tl : TE} (hl : PE X l tl) : PI X tg l (iSeqA X.K tl) := by
  refine ⟨fun pins z σ H R I h => thn (hl.run pins z σ H _ I h) fun v z1 ⟨x, H1, I1, r1, q1⟩ => ?_⟩
  obtain ⟨a, xs, ex, hq⟩ := q1
  subst ex
  cases r1
  have fp : ∀ b ∈ [z1.heap.objs.size], FpOk X pins H1 b := fun b hb => by
    rw [List.mem_singleton.mp hb]
    exact I1.fpOk (Nat.le_refl _) (I1.hok.fresh (Nat.le_refl _))
  rcases hq with ⟨hq, q⟩ | ⟨hq, q⟩
  · obtain ⟨its, rv, tp, _⟩ := I1.list hq
    exact wpAny_pyIter_list tp.isList ⟨z1.heap.objs.size, [z1.heap.objs.size], _, _, H1, rfl, I1.kept (t' := z1.toks) fun b o e => Heap.get?_push_of_some _ e, turn_list a _, ⟨_, Heap.get?_push_size _ rfl, rfl, rfl⟩, fp, q⟩
  · obtain ⟨its, rv, tp, _⟩ := I1.tuple hq
    exact wpAny_pyIter_tuple (show z1.heap.IsTuple a its.toArray from tp) ⟨z1.heap.objs.size, [z1.heap.objs.size], _, _, H1, rfl, I1.kept (t' := z1.toks) fun b o e => Heap.get?_push_of_some _ e, turn_tuple a _, ⟨_, Heap.get?_push_size _ rfl, rfl, rfl⟩, fp, q⟩
/-! ### rows: tuples in a list or tuple -/
def Rows (K : PySem.W.Frag) (H : Hp) : List V → List (List V) → Prop
  | [], [] => True
  | v :: xs, r :: rs => (∃ t, v = .ref t ∧ SqT K H t r) ∧ Rows K H xs rs
  | _, _ => False
section
variable {K : PySem.W.Frag} {H H' : Hp}
theorem Rows.mono (s : Same H H') : ∀ {xs : List V} {rs : List (List V)}, Rows K H xs rs → Rows K H' xs rs
  | [], [], _ => True.intro
  | _ :: _, _ :: _, ⟨⟨t, e, h⟩, r⟩ => ⟨⟨t, e, Same.sqt s h⟩, r.mono s⟩
theorem Rows.len : ∀ {xs : List V} {rs : List (List V)}, Rows K H xs rs → xs.length = rs.length
  | [], [], _ => rfl
  | _ :: _, _ :: _, ⟨_, r⟩ => congrArg (· + 1) r.len
theorem Rows.snoc {t : Addr} {w : List V} (h : SqT K H t w) : ∀ {xs : List V} {rs : List (List V)}, Rows K H xs rs → Rows K H (xs ++ [.ref t]) (rs ++ [w])
  | [], [], _ => ⟨⟨t, rfl, h⟩, True.intro⟩
  | _ :: _, _ :: _, ⟨e, r⟩ => ⟨e, r.snoc h⟩
theorem Rows.app : ∀ {xs ys : List V} {rs ss : List (List V)}, Rows K H xs rs → Rows K H ys ss → Rows K H (xs ++ ys) (rs ++ ss)
  | [], _, [], _, _, h => h
  | _ :: _, _, _ :: _, _, ⟨e, r⟩, h => ⟨e, r.app h⟩
theorem Rows.at : ∀ {xs : List V} {rs : List (List V)} {i : Nat} {v : V}, Rows K H xs rs → xs[i]? = some v → ∃ t r, v = .ref t ∧ SqT K H t r ∧ rs[i]? = some r
  | [], [], _, _, _, h => by simp at h
  | _ :: _, r :: _, 0, _, ⟨⟨t, e, h⟩, _⟩, hi => ⟨t, r, by rw [← Option.some.inj hi]; exact e, h, rfl⟩
  | _ :: _, _ :: _, i + 1, _, ⟨_, r⟩, hi => Rows.at (i := i) r hi
theorem Rows.take : ∀ {xs : List V} {rs : List (List V)} (i : Nat), Rows K H xs rs → Rows K H (xs.take i) (rs.take i)
  | [], [], i, _ => by simp [Rows]
  | _ :: _, _ :: _, 0, _ => True.intro
  | _ :: _, _ :: _, i + 1, ⟨e, r⟩ => ⟨e, r.take i⟩
theorem Rows.drop : ∀ {xs : List V} {rs : List (List V)} (i : Nat), Rows K H xs rs → Rows K H (xs.drop i) (rs.drop i)
  | [], [], i, _ => by simp [Rows]
  | _ :: _, _ :: _, 0, h => h
  | _ :: _, _ :: _, i + 1, ⟨_, r⟩ => r.drop i
end
/-! ### boards: the data -/
structure Sp3 where (nm one oth : Str)
def Sp3.row (r : Sp3) : List V := [.str r.nm, .str r.one, .str r.oth]
structure Ct where (one oth : Str) (mv : Option Str) (whn way : Str)
def mvV : Option Str → V
  | none => .non
  | some m => .str m
def Ct.row (c : Ct) : List V := [.str c.one, .str c.oth, mvV c.mv, .str c.whn, .str c.way]
structure Bd where (nodes switches : List Str) (relays lamps : List Sp3) (contacts : List Ct)
def Bd.movers (b : Bd) : List Str := b.switches ++ b.relays.map (·.nm)
def isNm (z : Str) : Bool := decide (1 ≤ z.length) && (decide (z.length ≤ 12) && z.cps.toList.all fun c => decide (c ∈ alph))
theorem isNm_iff {z : Str} : isNm z = true ↔ Nm z := by
  unfold isNm Nm Al
  simp only [Bool.and_eq_true, decide_eq_true_eq, List.all_eq_true]
def areNm (zs : List Str) (lo hi : Nat) : Bool := zs.all isNm && (decide zs.Nodup && (decide (lo ≤ zs.length) && decide (zs.length ≤ hi)))
def spanB (nodes : List Str) (r : Sp3) : Bool := isNm r.nm && (decide (r.one ∈ nodes) && (decide (r.oth ∈ nodes) && !decide (r.one = r.oth)))
def makeS : Str := "make"
def breakS : Str := "break"
def bothS : Str := "both"
def forwardS : Str := "forward"
def ctB (nodes movers : List Str) (c : Ct) : Bool := decide (c.one ∈ nodes) && (decide (c.oth ∈ nodes) && (!decide (c.one = c.oth) && ((match c.mv with
  | none => decide (c.whn = makeS)
  | some m => decide (m ∈ movers) && decide (c.whn ∈ [makeS, breakS])) && decide (c.way ∈ [bothS, forwardS]))))
/-- a board that may be -/
structure Bd.Ok (b : Bd) : Prop where
  nodes : areNm b.nodes 2 16 = true
  sw : b.switches.length ≤ 6
  rl : b.relays.length ≤ 8
  mv : areNm b.movers 0 b.movers.length = true
  lp : areNm (b.lamps.map (·.nm)) 1 8 = true
  spR : ∀ r ∈ b.relays, spanB b.nodes r = true
  spL : ∀ r ∈ b.lamps, spanB b.nodes r = true
  ct : b.contacts.length ≤ 40
  cts : ∀ c ∈ b.contacts, ctB b.nodes b.movers c = true
theorem areNm_names {zs : List Str} {lo hi : Nat} (h : areNm zs lo hi = true) : (∀ z ∈ zs, Nm z) ∧ zs.Nodup ∧ lo ≤ zs.length ∧ zs.length ≤ hi := by
  unfold areNm at h
  simp only [Bool.and_eq_true, decide_eq_true_eq, List.all_eq_true] at h
  exact ⟨fun z hz => isNm_iff.mp (h.1 z hz), h.2.1, h.2.2.1, h.2.2.2⟩
/-- what the top holds of the class and of the constants about it -/
structure BTxt (K : PySem.W.Frag) (mg : Str → Option Value) (C : Addr) (mc : Value) (sp : Addr) (sg : Addr) : Prop where
  cl : Cls K C
  nN : NoAttr K C "nodes"
  nS : NoAttr K C "switches"
  nR : NoAttr K C "relays"
  nL : NoAttr K C "lamps"
  nC : NoAttr K C "contacts"
  nM : NoAttr K C "_movers"
  mgB : mg "Board" = some (.ref C)
  gI : mg "is_good_name" = some (.ref sg)
  cr : ClX.CRead K C mc
  c1 : ∃ t, PySem.W.findCls K (.ref C) mc "MOST_NODES" = some (.val (.int 16 t))
  c2 : ∃ t, PySem.W.findCls K (.ref C) mc "MOST_SWITCHES" = some (.val (.int 6 t))
  c3 : ∃ t, PySem.W.findCls K (.ref C) mc "MOST_RELAYS" = some (.val (.int 8 t))
  c4 : ∃ t, PySem.W.findCls K (.ref C) mc "MOST_LAMPS" = some (.val (.int 8 t))
  c5 : ∃ t, PySem.W.findCls K (.ref C) mc "MOST_CONTACTS" = some (.val (.int 40 t))
  g1 : ∃ t, mg "LONGEST_NAME" = some (.int 12 t)
  g2 : ∃ t, mg "LEAST_NODES" = some (.int 2 t)
  g3 : ∃ t, mg "LEAST_LAMPS" = some (.int 1 t)
  g4 : ∃ t, mg "CHARACTERS" = some (.str "abcdefghijklmnopqrstuvwxyz0123456789" t)
  g5 : ∃ a, mg "WHENS" = some (.ref a) ∧ ∀ H, SqT K H a ([makeS, breakS].map V.str)
  g6 : ∃ a, mg "WAYS" = some (.ref a) ∧ ∀ H, SqT K H a ([bothS, forwardS].map V.str)
  len : mg "len" = none
  all : mg "all" = none
  tup : mg "tuple" = none
  enu : mg "enumerate" = none
section
variable {P : Program} {w : World} {K : PySem.W.Frag} {mg : Str → Option Value} {base : Heap}
/-! ### is_good_name -/
def spIsName : Sp := fun vs H Q _ => ∃ z : Str, vs = [.str z] ∧ z.length ≤ 1000000 ∧ ∀ H', Same H H' → Q (.bl (isNm z)) H'
theorem scIsName : FnScope ["text", "letter"] ["text"] (defScope sIsGoodName) := ⟨rfl, rfl, rfl, by decide +kernel, rfl, by decide +kernel, by decide +kernel⟩
theorem ok_isName {f C sp sg : Addr} {mc : Value} {fd : FuncData} {k : Nat} (F : Fun K "is_good_name" "is_good_name" sIsGoodName f fd) (T : BTxt K mg C mc sp sg) : FnOk P w K mg base CX0 (k + 1) f fd ["text"] spIsName := by
  obtain ⟨t1, g1⟩ := T.g1
  obtain ⟨t4, g4⟩ := T.g4
  refine F.ok scIsName (fun vs H Q E h => ?_) (fun cdv A outer s H vs Q E hr h => ?_)
  · obtain ⟨z, rfl, _⟩ := h
    rfl
  · obtain ⟨z, rfl, hz, q⟩ := h
    refine ⟨_, pss_one (ps_ret (pe_and (pe_chain op_le op_le pe_int (pe_callB call_len_str (by rfl) T.len PySem.boot_len (pa_cons (pv 0) pa_nil)) (pe_glob (v := .int 12) rfl g1 ⟨_, rfl⟩))
      (pe_one (pe_callB (cr_all rfl) (by rfl) T.all (by decide +kernel) (pa_cons (pe_lc (own := [("letter", 1)]) (g := gName 1) (tt := tYes) rfl scIsName.nd (pi_str (pv 0)) (blkOk_by (N := ["text", "letter"]) (sc := defScope sIsGoodName) (by decide +kernel)) (fun _ _ _ _ _ => pg_name (i := 1) scIsName.nd rfl (Or.inl rfl)) (fun _ _ _ _ _ => pts_nil)
        (fun _ _ _ _ _ => pe_cmpR op_in_sign (pv 1) (pe_glob (v := .str "abcdefghijklmnopqrstuvwxyz0123456789") rfl g4 ⟨_, rfl⟩) (by rfl))) pa_nil))))), ?_⟩
    refine ⟨_, rfl, z, rfl, szl hz, _, _, rfl, rfl, _, rfl, ?_⟩
    refine ite2 (fun h1 => ?_) (fun h1 => ?_)
    · have h1' : 1 ≤ z.length := by
        have := of_decide_eq_true h1
        omega
      refine ⟨_, _, rfl, rfl, _, rfl, ?_⟩
      refine ite2 (fun h2 => ?_) (fun h2 => ?_)
      · have h2' : z.length ≤ 12 := by
          have := of_decide_eq_true h2
          omega
        refine ⟨_, rfl, _, rfl, fun D hD => ?_⟩
        refine lc_it walk_str (fun i H2 => Same H H2 ∧ H2 D = some (.lst (((z.cps.toList.take i).map fun c => decide (c ∈ alph)).map V.bl)))
          ⟨same_upd hD, upd_same⟩ (fun _ _ _ _ => True.intro) ?_ ?_
        · rintro i x H2 H3 hi ⟨sm, hd⟩ ⟨rfl, c, hc, rfl⟩
          have hc' : z.cps.toList[i]? = some c := by
            rw [Array.getElem?_toList]
            exact hc
          refine ⟨rfl, ?_⟩
          refine yesT ?_
          refine ⟨_, rfl, c, _, rfl, rfl, _, hd, ?_, same_mut sm hD, ?_⟩
          · rw [List.length_map, List.length_map, List.length_take]
            exact szlt (by have := len_tl z; omega)
          · rw [upd_same, List.take_add_one, hc', Option.toList_some, map_snoc, map_snoc]
            rfl
        · rintro H2 ⟨sm, hd⟩
          refine ⟨D, _, rfl, sq hd, ?_⟩
          have e : (((z.cps.toList.take z.cps.size).map fun c => decide (c ∈ alph)).all id) = isNm z := by
            unfold isNm
            rw [show z.cps.size = z.cps.toList.length by simp, List.take_length, decide_eq_true h1', decide_eq_true h2', Bool.true_and, Bool.true_and, List.all_map]
            rfl
          rw [e]
          exact q H2 sm
      · have h2' : ¬ z.length ≤ 12 := by
          have := of_decide_eq_false (Bool.eq_false_iff.mpr h2)
          omega
        have e : isNm z = false := by
          unfold isNm
          rw [decide_eq_false h2', Bool.false_and, Bool.and_false]
        rw [← e]
        exact q H (Same.refl H)
    · have h1' : ¬ 1 ≤ z.length := by
        have := of_decide_eq_false (Bool.eq_false_iff.mpr h1)
        omega
      have e : isNm z = false := by
        unfold isNm
        rw [decide_eq_false h1', Bool.false_and]
      refine ⟨_, rfl, ?_⟩
      refine iteF ?_
      rw [← e]
      exact q H (Same.refl H)
/-! ### are_names -/
def spAreNames (K : PySem.W.Frag) : Sp := fun vs H Q _ => ∃ (a : Addr) (zs : List Str) (lo hi : Nat), vs = [.ref a, .int lo, .int hi] ∧ Sq K H a (zs.map V.str) ∧ (∀ z ∈ zs, z.length ≤ 1000000) ∧ zs.length ≤ 1000 ∧ ∀ H', Same H H' → Q (.bl (areNm zs lo hi)) H'
theorem scAreNames : FnScope ["names", "least", "most", "number", "name"] ["names", "least", "most"] (defScope sAreNames) := ⟨rfl, rfl, rfl, by decide +kernel, rfl, by decide +kernel, by decide +kernel⟩
theorem areNm_bad {zs : List Str} {lo hi i : Nat} {z : Str} (hz : zs[i]? = some z) (h : isNm z = false ∨ z ∈ zs.take i) : areNm zs lo hi = false := by
  rw [← Bool.not_eq_true]
  intro e
  unfold areNm at e
  simp only [Bool.and_eq_true, decide_eq_true_eq, List.all_eq_true] at e
  have hm : z ∈ zs := List.mem_of_getElem? hz
  rcases h with h | h
  · rw [e.1 z hm] at h
    cases h
  · obtain ⟨j, hj⟩ := List.mem_iff_getElem?.mp h
    have hjl : j < (zs.take i).length := (List.getElem?_eq_some_iff.mp hj).1
    rw [List.length_take] at hjl
    rw [List.getElem?_take_of_lt (by omega)] at hj
    have := nd_ix e.2.1 hz hj
    omega
theorem areNm_good {zs : List Str} {lo hi : Nat} (h : ∀ i z, zs[i]? = some z → isNm z = true ∧ z ∉ zs.take i) : areNm zs lo hi = (decide (lo ≤ zs.length) && decide (zs.length ≤ hi)) := by
  have e1 : zs.all isNm = true := by
    rw [List.all_eq_true]
    intro z hz
    obtain ⟨i, hi⟩ := List.mem_iff_getElem?.mp hz
    exact (h i z hi).1
  have e2 : zs.Nodup := by
    refine List.pairwise_iff_getElem.mpr fun i j hi hj hij e => ?_
    refine (h j _ (List.getElem?_eq_getElem hj)).2 (List.mem_iff_getElem?.mpr ⟨i, ?_⟩)
    rw [List.getElem?_take_of_lt hij, List.getElem?_eq_getElem hi, e]
  unfold areNm
  rw [e1, decide_eq_true e2, Bool.true_and, Bool.true_and]
theorem ok_areNames {f fI C sp sg : Addr} {mc : Value} {fd fdI : FuncData} {k : Nat} (F : Fun K "are_names" "are_names" sAreNames f fd) (T : BTxt K mg C mc sp sg) (FI : Fun K "is_good_name" "is_good_name" sIsGoodName sg fdI) (bI : Binds K fdI ["text"] []) :
    FnOk P w K mg base CX0 (k + 2) f fd ["names", "least", "most"] (spAreNames K) := by
  have GI : FnOk P w K mg base CX0 (k + 1) sg fdI ["text"] spIsName := ok_isName FI T
  refine F.ok scAreNames (fun vs H Q E h => ?_) (fun cdv A outer s H vs Q E hr h => ?_)
  · obtain ⟨a, zs, lo, hi, rfl, _⟩ := h
    rfl
  · obtain ⟨a, zs, lo, hi, rfl, hq, hz, hl, q⟩ := h
    refine ⟨_, pss_cons (ps_for PassesOwn.never rfl (pi_enumA rfl T.enu (pa_cons (pv 0) pa_nil)) (pg_tup rfl (pgs_cons (pg_name (i := 3) scAreNames.nd rfl (.inl rfl)) (pgs_cons (pg_name (i := 4) scAreNames.nd rfl (.inl rfl)) pgs_nil)))
        (pss_one (ps_if (PW.pt (pw_or (pt_not (pt_val (pe_call GI hr (by rfl) T.gI FI.kp bI .nil pass0 (pa_cons (pv 4) pa_nil)))) (pw_or1 (pt_cmpR op_in_seq (pv 4) (pe_slice sl_any (pv 0) po_none (po_some (pv 3))) (by rfl)))))
          (pss_one (ps_ret pe_bl)) pss_nil)))
      (pss_one (ps_ret (pe_chain op_le op_le (pv 1) (pe_callB call_len_seq (by rfl) T.len PySem.boot_len (pa_cons (pv 0) pa_nil)) (pv 2)))), ?_⟩
    rcases hq with hq | hq
    all_goals
      first
      | refine ⟨_, rfl, a, zs.map V.str, rfl, .inl ⟨hq, for_it walk_enum (fun i σ H2 => ∃ z3 z4 : Option V, σ = [some (.ref a), some (.int lo), some (.int hi), z3, z4] ∧ Same H H2 ∧ ∀ j z, j < i → zs[j]? = some z → isNm z = true ∧ z ∉ zs.take j)
          ⟨none, none, rfl, Same.refl H, fun j z hj => absurd hj (Nat.not_lt_zero _)⟩ (fun _ _ _ _ ⟨_, _, _, sm, _⟩ => sm.seq hq) ?_ ?_⟩⟩
      | refine ⟨_, rfl, a, zs.map V.str, rfl, .inr ⟨hq, for_it walk_enumT (fun i σ H2 => ∃ z3 z4 : Option V, σ = [some (.ref a), some (.int lo), some (.int hi), z3, z4] ∧ Same H H2 ∧ ∀ j z, j < i → zs[j]? = some z → isNm z = true ∧ z ∉ zs.take j)
          ⟨none, none, rfl, Same.refl H, fun j z hj => absurd hj (Nat.not_lt_zero _)⟩ (fun _ _ _ _ ⟨_, _, _, sm, _⟩ => Same.sqt sm hq) ?_ ?_⟩⟩
      · rintro i v σ H2 H3 hi' ⟨z3, z4, rfl, sm, good⟩ ⟨t, x, y, rfl, nt, rfl, hx, hy⟩
        cases hx
        rw [List.length_map] at hi'
        have hzi : zs[i]? = some zs[i] := List.getElem?_eq_getElem hi'
        have ey : y = .str zs[i] := by
          have hy : (zs.map V.str)[i]? = some y := hy
          rw [List.getElem?_map, hzi] at hy
          exact (Option.some.inj hy).symm
        subst ey
        have s2 : Same H (upd H2 t (.tup [.int (i : Nat), .str zs[i]])) := sm.trans (same_upd nt)
        refine ⟨t, _, rfl, st upd_same, rfl, _, _, rfl, _, _, rfl, rfl, ?_⟩
        refine ⟨_, rfl, zs[i], rfl, hz _ (List.getElem_mem hi'), fun H4 s4 => ⟨_, rfl, ?_⟩⟩
        have s24 := s2.trans s4
        cases en : isNm zs[i] with
        | false =>
          refine iteT ?_
          refine iteT ?_
          have e := areNm_bad (lo := lo) (hi := hi) hzi (.inl en)
          rw [← e]
          exact q _ s24
        | true =>
          refine iteF ?_
          refine ⟨_, rfl, _, rfl, _, rfl, (i : Int), rfl, ?_⟩
          refine cut_any (by first | exact .inl (s24.seq hq) | exact .inr (Same.sqt s24 hq)) fun p H5 s5 hp _ => ?_
          have s25 := s24.trans s5
          rw [cut_list, ← List.map_take] at hp
          refine ⟨p, _, rfl, hp, rfl, flat_strs _, _, rfl, ?_⟩
          rw [if_neg Bool.false_ne_true, inV_str]
          refine ite2 (fun e => ?_) (fun e => ?_)
          · have e2 := areNm_bad (lo := lo) (hi := hi) hzi (.inr (of_decide_eq_true e))
            rw [← e2]
            exact q _ s25
          · refine ⟨_, _, rfl, s25, fun j z hj hzj => ?_⟩
            by_cases ej : j = i
            · subst ej
              rw [hzi] at hzj
              cases hzj
              exact ⟨en, of_decide_eq_false (Bool.eq_false_iff.mpr e)⟩
            · exact good j z (by omega) hzj
      · rintro σ H2 ⟨z3, z4, rfl, sm, good⟩
        rw [List.length_map] at good
        have e := areNm_good (lo := lo) (hi := hi) fun i z hi => good i z (List.getElem?_eq_some_iff.mp hi).1 hi
        refine ⟨_, rfl, _, rfl, a, _, rfl, (by first | exact .inl (sm.seq hq) | exact .inr (Same.sqt sm hq)), _, _, rfl, rfl, _, rfl, ?_⟩
        rw [List.length_map]
        refine ite2 (fun h1 => ?_) (fun h1 => ?_)
        · have h1' : lo ≤ zs.length := by
            have := of_decide_eq_true h1
            omega
          refine ⟨_, rfl, _, _, rfl, rfl, ?_⟩
          have e3 : areNm zs lo hi = decide ((zs.length : Int) ≤ (hi : Int)) := by
            rw [e, decide_eq_true h1', Bool.true_and]
            exact decide_eq_decide.mpr (by omega)
          show Q (V.bl (decide ((zs.length : Int) ≤ (hi : Int)))) _
          rw [← e3]
          exact q _ sm
        · have h1' : ¬ lo ≤ zs.length := by
            have := of_decide_eq_false (Bool.eq_false_iff.mpr h1)
            omega
          have e3 : areNm zs lo hi = false := by
            rw [e, decide_eq_false h1', Bool.false_and]
          rw [← e3]
          exact q _ sm
/-! ### is_span, is_contact -/
theorem dec_f {b : Bool} {A : Prop} [Decidable A] (h : ¬ A) : (decide A && b) = false := by rw [decide_eq_false h, Bool.false_and]
theorem ndt {c : Prop} [Decidable c] (h : (decide c) = true) : c := of_decide_eq_true h
theorem ndf {c : Prop} [Decidable c] (h : ¬ (decide c) = true) : ¬ c := of_decide_eq_false (Bool.eq_false_iff.mpr h)
def spIsSpan (K : PySem.W.Frag) : Sp := fun vs H Q _ => ∃ (t b : Addr) (r : Sp3) (ns : List Str), vs = [.ref t, .ref b] ∧ SqT K H t r.row ∧ Sq K H b (ns.map V.str) ∧ r.nm.length ≤ 1000000 ∧ ∀ H', Same H H' → Q (.bl (spanB ns r)) H'
theorem scIsSpan : FnScope ["part", "nodes", "name", "one", "other"] ["part", "nodes"] (defScope sIsSpan) := ⟨rfl, rfl, rfl, by decide +kernel, rfl, by decide +kernel, by decide +kernel⟩
theorem ok_isSpan {f C sp sg : Addr} {mc : Value} {fd fdI : FuncData} {k : Nat} (F : Fun K "is_span" "is_span" sIsSpan f fd) (T : BTxt K mg C mc sp sg) (FI : Fun K "is_good_name" "is_good_name" sIsGoodName sg fdI) (bI : Binds K fdI ["text"] []) :
    FnOk P w K mg base CX0 (k + 2) f fd ["part", "nodes"] (spIsSpan K) := by
  have GI : FnOk P w K mg base CX0 (k + 1) sg fdI ["text"] spIsName := ok_isName FI T
  refine F.ok scIsSpan (fun vs H Q E h => ?_) (fun cdv A outer s H vs Q E hr h => ?_)
  · obtain ⟨t, b, r, ns, rfl, _⟩ := h
    rfl
  · obtain ⟨t, b, r, ns, rfl, ht, hb, hl, q⟩ := h
    refine ⟨_, pss_cons (ps_if (pt_cmpR op_ne (pe_callB call_len_seq (by rfl) T.len PySem.boot_len (pa_cons (pv 0) pa_nil)) pe_int (nomark _)) (pss_one (ps_ret pe_bl)) pss_nil)
      (pss_cons (ps_asg (pv 0) (pg_tup rfl (pgs_cons (pg_name (i := 2) scIsSpan.nd rfl (.inl rfl)) (pgs_cons (pg_name (i := 3) scIsSpan.nd rfl (.inl rfl)) (pgs_cons (pg_name (i := 4) scIsSpan.nd rfl (.inl rfl)) pgs_nil)))))
      (pss_one (ps_ret (pe_and (pe_call GI hr (by rfl) T.gI FI.kp bI .nil pass0 (pa_cons (pv 2) pa_nil))
        (pe_and (pe_cmpR op_in_seq (pv 3) (pv 1) (by rfl)) (pe_and (pe_cmpR op_in_seq (pv 4) (pv 1) (by rfl)) (pe_one (pe_cmpR op_ne (pv 3) (pv 4) (nomark _))))))))), ?_⟩
    refine ⟨_, rfl, t, _, rfl, .inr ht, rfl, _, rfl, ?_⟩
    refine iteF ?_
    refine ⟨_, rfl, t, _, rfl, ht, rfl, _, _, rfl, _, _, rfl, _, _, rfl, rfl, ?_⟩
    refine ⟨_, rfl, r.nm, rfl, hl, fun H1 s1 => ⟨_, rfl, ?_⟩⟩
    have e0 : spanB ns r = (isNm r.nm && (decide (r.one ∈ ns) && (decide (r.oth ∈ ns) && !decide (r.one = r.oth)))) := rfl
    refine ite2 (fun h1 => ?_) (fun h1 => ?_)
    · rw [h1, Bool.true_and] at e0
      refine ⟨_, rfl, _, rfl, b, _, rfl, Same.sq s1 hb, rfl, flat_strs _, _, rfl, ?_⟩
      rw [if_neg Bool.false_ne_true, inV_str]
      refine ite2 (fun h2 => ?_) (fun h2 => ?_)
      · rw [h2, Bool.true_and] at e0
        refine ⟨_, rfl, _, rfl, b, _, rfl, Same.sq s1 hb, rfl, flat_strs _, _, rfl, ?_⟩
        rw [if_neg Bool.false_ne_true, inV_str]
        refine ite2 (fun h3 => ?_) (fun h3 => ?_)
        · rw [h3, Bool.true_and] at e0
          refine ⟨_, rfl, _, rfl, rfl, ?_⟩
          have e1 : (!decide (V.str r.one = V.str r.oth)) = spanB ns r := by
            rw [e0]
            congr 1
            exact decide_eq_decide.mpr ⟨V.str.inj, congrArg V.str⟩
          show Q (V.bl (!decide (V.str r.one = V.str r.oth))) _
          rw [e1]
          exact q _ s1
        · rw [Bool.eq_false_iff.mpr h3, Bool.false_and] at e0
          show Q (V.bl false) _
          rw [← e0]
          exact q _ s1
      · rw [Bool.eq_false_iff.mpr h2, Bool.false_and] at e0
        show Q (V.bl false) _
        rw [← e0]
        exact q _ s1
    · rw [Bool.eq_false_iff.mpr h1, Bool.false_and] at e0
      show Q (V.bl false) _
      rw [← e0]
      exact q _ s1
def spIsContact (K : PySem.W.Frag) : Sp := fun vs H Q _ => ∃ (t b m : Addr) (c : Ct) (ns ms : List Str), vs = [.ref t, .ref b, .ref m] ∧ SqT K H t c.row ∧ Sq K H b (ns.map V.str) ∧ Sq K H m (ms.map V.str) ∧ ∀ H', Same H H' → Q (.bl (ctB ns ms c)) H'
theorem scIsContact : FnScope ["part", "nodes", "movers", "one", "other", "mover", "when", "way"] ["part", "nodes", "movers"] (defScope sIsContact) := ⟨rfl, rfl, rfl, by decide +kernel, rfl, by decide +kernel, by decide +kernel⟩
theorem ok_isContact {f C sp sg : Addr} {mc : Value} {fd : FuncData} {k : Nat} (F : Fun K "is_contact" "is_contact" sIsContact f fd) (T : BTxt K mg C mc sp sg) : FnOk P w K mg base CX0 (k + 1) f fd ["part", "nodes", "movers"] (spIsContact K) := by
  obtain ⟨aW, g5, hW⟩ := T.g5
  obtain ⟨aY, g6, hY⟩ := T.g6
  refine F.ok scIsContact (fun vs H Q E h => ?_) (fun cdv A outer s H vs Q E hr h => ?_)
  · obtain ⟨t, b, m, c, ns, ms, rfl, _⟩ := h
    rfl
  · obtain ⟨t, b, m, c, ns, ms, rfl, ht, hb, hm, q⟩ := h
    refine ⟨_, pss_cons (ps_if (pt_cmpR op_ne (pe_callB call_len_seq (by rfl) T.len PySem.boot_len (pa_cons (pv 0) pa_nil)) pe_int (nomark _)) (pss_one (ps_ret pe_bl)) pss_nil)
      (pss_cons (ps_asg (pv 0) (pg_tup rfl (pgs_cons (pg_name (i := 3) scIsContact.nd rfl (.inl rfl)) (pgs_cons (pg_name (i := 4) scIsContact.nd rfl (.inl rfl)) (pgs_cons (pg_name (i := 5) scIsContact.nd rfl (.inl rfl)) (pgs_cons (pg_name (i := 6) scIsContact.nd rfl (.inl rfl)) (pgs_cons (pg_name (i := 7) scIsContact.nd rfl (.inl rfl)) pgs_nil)))))))
      (pss_cons (ps_if (PW.pt (pw_or (pt_cmpR op_notIn_seq (pv 3) (pv 1) (by rfl)) (pw_or (pt_cmpR op_notIn_seq (pv 4) (pv 1) (by rfl)) (pw_or1 (pt_cmpR op_eq (pv 3) (pv 4) (nomark _)))))) (pss_one (ps_ret pe_bl)) pss_nil)
      (pss_cons (ps_if (pt_cmpR op_isN (pv 5) pe_non (nomark _)) (pss_one (ps_ret (pe_and (pe_cmpR op_eq (pv 6) pe_str (nomark _)) (pe_one (pe_cmpR op_in_seq (pv 7) (pe_glob (v := .ref aY) rfl g6 rfl) (by rfl)))))) pss_nil)
      (pss_one (ps_ret (pe_and (pe_cmpR op_in_seq (pv 5) (pv 2) (by rfl)) (pe_and (pe_cmpR op_in_seq (pv 6) (pe_glob (v := .ref aW) rfl g5 rfl) (by rfl)) (pe_one (pe_cmpR op_in_seq (pv 7) (pe_glob (v := .ref aY) rfl g6 rfl) (by rfl)))))))))), ?_⟩
    refine ⟨_, rfl, t, _, rfl, .inr ht, rfl, _, rfl, ?_⟩
    refine iteF ?_
    refine ⟨_, rfl, t, _, rfl, ht, rfl, _, _, rfl, _, _, rfl, _, _, rfl, _, _, rfl, _, _, rfl, rfl, ?_⟩
    have q' := q H (Same.refl H)
    unfold ctB at q'
    refine ⟨_, rfl, _, rfl, b, _, rfl, hb, rfl, flat_strs _, _, rfl, ?_⟩
    rw [if_pos rfl, inV_str]
    by_cases h1 : c.one ∈ ns
    · rw [decide_eq_true h1] at q' ⊢
      refine iteF ?_
      refine ⟨_, rfl, _, rfl, b, _, rfl, hb, rfl, flat_strs _, _, rfl, ?_⟩
      rw [if_pos rfl, inV_str]
      by_cases h2 : c.oth ∈ ns
      · rw [decide_eq_true h2] at q' ⊢
        refine iteF ?_
        refine ⟨_, rfl, _, rfl, rfl, _, rfl, ?_⟩
        by_cases h3 : c.one = c.oth
        · rw [decide_eq_true (congrArg V.str h3)]
          rw [decide_eq_true h3] at q'
          refine iteT ?_
          exact q'
        · rw [decide_eq_false (fun z => h3 (V.str.inj z))]
          rw [decide_eq_false h3] at q'
          refine iteF ?_
          refine ⟨_, rfl, rfl, _, rfl, ?_⟩
          cases em : c.mv with
          | none =>
            rw [em] at q'
            have e1 : decide (mvV none = V.non) = true := rfl
            rw [e1]
            refine iteT ?_
            refine ⟨_, rfl, rfl, _, rfl, ?_⟩
            by_cases h4 : c.whn = makeS
            · rw [decide_eq_true h4] at q'
              rw [show decide (V.str c.whn = V.str "make") = true from decide_eq_true (congrArg V.str h4)]
              refine iteT ?_
              refine ⟨_, rfl, aY, _, rfl, .inr (hY _), rfl, flat_strs _, ?_⟩
              rw [if_neg Bool.false_ne_true, inV_str]
              exact q'
            · rw [decide_eq_false h4] at q'
              rw [show decide (V.str c.whn = V.str "make") = false from decide_eq_false fun z => h4 (V.str.inj z)]
              refine iteF ?_
              exact q'
          | some mo =>
            rw [em] at q'
            dsimp only at q'
            have e1 : decide (mvV (some mo) = V.non) = false := decide_eq_false fun z => by cases z
            rw [e1]
            refine iteF ?_
            refine ⟨_, rfl, _, rfl, m, _, rfl, hm, rfl, flat_strs _, _, rfl, ?_⟩
            rw [if_neg Bool.false_ne_true]
            show if inV (V.str mo) (ms.map V.str) = true then _ else _
            rw [inV_str]
            by_cases h4 : mo ∈ ms
            · rw [decide_eq_true h4] at q' ⊢
              refine iteT ?_
              refine ⟨_, rfl, aW, _, rfl, .inr (hW _), rfl, flat_strs _, _, rfl, ?_⟩
              rw [if_neg Bool.false_ne_true, inV_str]
              by_cases h5 : c.whn ∈ [makeS, breakS]
              · rw [decide_eq_true h5] at q' ⊢
                refine iteT ?_
                refine ⟨_, rfl, aY, _, rfl, .inr (hY _), rfl, flat_strs _, ?_⟩
                rw [if_neg Bool.false_ne_true, inV_str]
                exact q'
              · rw [decide_eq_false h5] at q' ⊢
                refine iteF ?_
                exact q'
            · rw [decide_eq_false h4] at q' ⊢
              refine iteF ?_
              exact q'
      · rw [decide_eq_false h2] at q' ⊢
        refine iteT ?_
        refine iteT ?_
        exact q'
    · rw [decide_eq_false h1] at q' ⊢
      refine iteT ?_
      refine iteT ?_
      exact q'
/-! ### the fields of a board -/
theorem putF_len (f : Str) (v : V) : ∀ fs : List (Str × V), (putF f v fs).length ≤ fs.length + 1
  | [] => Nat.le_refl _
  | (g, x) :: r => by
    show (if g = f then (g, v) :: r else (g, x) :: putF f v r).length ≤ r.length + 1 + 1
    split
    · exact Nat.le_succ _
    · exact Nat.succ_le_succ (putF_len f v r)
theorem cat_any {K : PySem.W.Frag} {a b : Addr} {xs ys : List V} {H : Hp} {Q : VK} (h1 : SqT K H a xs) (h2 : SqT K H b ys) (hl : xs.length + ys.length ≤ 1000000) (q : ∀ p H', Same H H' → SqT K H' p (xs ++ ys) → Q (.ref p) H') : rCatA K (.ref a) (.ref b) H Q := by
  refine ⟨a, b, xs, ys, rfl, rfl, h1, h2, szl hl, fun e => q b H (Same.refl H) (by rw [e]; exact h2), fun _ e => q a H (Same.refl H) (by rw [e, List.append_nil]; exact h1), fun _ _ p np => q p _ (same_upd np) (st upd_same)⟩
structure Fl (K : PySem.W.Frag) (H : Hp) (fs : List (Str × V)) (b : Bd) (tn ts tr tl tc : Addr) (xr xl xc : List V) : Prop where
  ln : fs.lookup ("nodes" : Str) = some (.ref tn)
  ls : fs.lookup ("switches" : Str) = some (.ref ts)
  lr : fs.lookup ("relays" : Str) = some (.ref tr)
  ll : fs.lookup ("lamps" : Str) = some (.ref tl)
  lc : fs.lookup ("contacts" : Str) = some (.ref tc)
  hn : SqT K H tn (b.nodes.map V.str)
  hs : SqT K H ts (b.switches.map V.str)
  hr : SqT K H tr xr
  hl : SqT K H tl xl
  hc : SqT K H tc xc
  rr : Rows K H xr (b.relays.map Sp3.row)
  rl : Rows K H xl (b.lamps.map Sp3.row)
  rc : Rows K H xc (b.contacts.map Ct.row)
theorem Fl.mono {K : PySem.W.Frag} {H H' : Hp} {fs : List (Str × V)} {b : Bd} {tn ts tr tl tc : Addr} {xr xl xc : List V} (s : Same H H') (f : Fl K H fs b tn ts tr tl tc xr xl xc) : Fl K H' fs b tn ts tr tl tc xr xl xc :=
  ⟨f.ln, f.ls, f.lr, f.ll, f.lc, Same.sqt s f.hn, Same.sqt s f.hs, Same.sqt s f.hr, Same.sqt s f.hl, Same.sqt s f.hc, f.rr.mono s, f.rl.mono s, f.rc.mono s⟩
/-- b with as few parts as a board may have at most -/
structure Few (b : Bd) : Prop where
  n : b.nodes.length ≤ 1000
  s : b.switches.length ≤ 1000
  r : b.relays.length ≤ 1000
  l : b.lamps.length ≤ 1000
  c : b.contacts.length ≤ 1000
  nz : ∀ z ∈ b.nodes, z.length ≤ 1000000
  sz : ∀ z ∈ b.switches, z.length ≤ 1000000
  rz : ∀ r ∈ b.relays, r.nm.length ≤ 1000000
  lz : ∀ r ∈ b.lamps, r.nm.length ≤ 1000000
def onlyNames : List Str := ["nodes", "switches", "relays", "lamps", "contacts", "_movers"]
/-- the board b stands at p -/
def BoardAt (K : PySem.W.Frag) (C : Addr) (H : Hp) (p : Addr) (b : Bd) : Prop := ∃ (dx : Addr) (fs : List (Str × V)) (tn ts tr tl tc tm : Addr) (xr xl xc : List V), H p = some (.ins C dx fs) ∧ Fl K H fs b tn ts tr tl tc xr xl xc ∧
  fs.lookup ("_movers" : Str) = some (.ref tm) ∧ SqT K H tm (b.movers.map V.str) ∧ ∀ m, m ∉ onlyNames → fs.lookup m = none
theorem BoardAt.mono {K : PySem.W.Frag} {C : Addr} {H H' : Hp} {p : Addr} {b : Bd} (s : Same H H') : BoardAt K C H p b → BoardAt K C H' p b
  | ⟨dx, fs, tn, ts, tr, tl, tc, tm, xr, xl, xc, hp, f, lm, hm, o⟩ => ⟨dx, fs, tn, ts, tr, tl, tc, tm, xr, xl, xc, s _ _ hp, f.mono s, lm, Same.sqt s hm, o⟩
/-! ### the three checks -/
def spSpans (K : PySem.W.Frag) (C : Addr) : Sp := fun vs H Q _ => ∃ (p dx : Addr) (fs : List (Str × V)) (b : Bd) (tn ts tr tl tc : Addr) (xr xl xc : List V), vs = [.ref p] ∧ H p = some (.ins C dx fs) ∧ Fl K H fs b tn ts tr tl tc xr xl xc ∧ Few b ∧
  (∀ r ∈ b.relays, spanB b.nodes r = true) ∧ (∀ r ∈ b.lamps, spanB b.nodes r = true) ∧ ∀ H', Same H H' → Q .non H'
theorem scSpans : FnScope ["self", "part"] ["self"] (defScope sBoardCheckSpans) := ⟨rfl, rfl, rfl, by decide +kernel, rfl, by decide +kernel, by decide +kernel⟩
theorem ok_spans {f fS C sp sg : Addr} {mc : Value} {fd fdS fdI : FuncData} {k : Nat} (F : Fun K "_check_spans" "Board._check_spans" sBoardCheckSpans f fd) (T : BTxt K mg C mc sp sg)
    (FS : Fun K "is_span" "is_span" sIsSpan fS fdS) (bS : Binds K fdS ["part", "nodes"] []) (gS : mg "is_span" = some (.ref fS)) (FI : Fun K "is_good_name" "is_good_name" sIsGoodName sg fdI) (bI : Binds K fdI ["text"] []) :
    FnOk P w K mg base CX0 (k + 3) f fd ["self"] (spSpans K C) := by
  have GS : FnOk P w K mg base CX0 (k + 2) fS fdS ["part", "nodes"] (spIsSpan K) := ok_isSpan FS T FI bI
  refine F.ok scSpans (fun vs H Q E h => ?_) (fun cdv A outer s H vs Q E hr h => ?_)
  · obtain ⟨p, _, _, _, _, _, _, _, _, _, _, _, rfl, _⟩ := h
    rfl
  · obtain ⟨p, dx, fs, b, tn, ts, tr, tl, tc, xr, xl, xc, rfl, hp, f, few, okr, okl, q⟩ := h
    refine ⟨_, pss_one (ps_for PassesOwn.never rfl (pi_tup (pe_op op_catA (pe_fld (pv 0) rfl) (pe_fld (pv 0) rfl))) (pg_name (i := 1) scSpans.nd rfl (.inl rfl))
      (pss_one (ps_if (pt_not (pt_val (pe_call GS hr (by rfl) gS FS.kp bS .nil pass0 (pa_cons (pv 1) (pa_cons (pe_fld (pv 0) rfl) pa_nil))))) (pss_one ps_never) pss_nil))), ?_⟩
    refine ⟨_, rfl, p, C, dx, _, _, rfl, hp, T.cl, T.nR, f.lr, _, rfl, p, C, dx, _, _, rfl, hp, T.cl, T.nL, f.ll, ?_⟩
    have lr := f.rr.len
    have ll := f.rl.len
    rw [List.length_map] at lr ll
    refine cat_any f.hr f.hl (by have := few.r; have := few.l; omega) fun t H1 s1 ht => ?_
    have rows : Rows K H1 (xr ++ xl) ((b.relays ++ b.lamps).map Sp3.row) := by
      rw [List.map_append]
      exact (f.rr.mono s1).app (f.rl.mono s1)
    refine ⟨t, rfl, ⟨_, ht⟩, for_tup (K := K) (a := t) (xs := xr ++ xl) (fun i σ H2 => ∃ z1 : Option V, σ = [some (.ref p), z1] ∧ Same H1 H2) ⟨none, rfl, Same.refl _⟩ (fun _ _ _ _ ⟨_, _, sm⟩ => Same.sqt sm ht) ?_ ?_⟩
    · rintro i v σ H2 hi ⟨z1, rfl, sm⟩
      obtain ⟨tt, rw_, rfl, hrow, hri⟩ := rows.at hi
      rw [List.getElem?_map] at hri
      obtain ⟨r, hr1, rfl⟩ := Option.map_eq_some_iff.mp hri
      have hm := List.mem_of_getElem? hr1
      have good : spanB b.nodes r = true ∧ r.nm.length ≤ 1000000 := by
        rcases List.mem_append.mp hm with h | h
        · exact ⟨okr r h, few.rz r h⟩
        · exact ⟨okl r h, few.lz r h⟩
      refine ⟨_, rfl, _, rfl, p, C, dx, _, _, rfl, sm _ _ (s1 _ _ hp), T.cl, T.nN, f.ln, tt, tn, r, b.nodes, rfl, Same.sqt sm hrow, .inr (Same.sqt (s1.trans sm) f.hn), good.2, fun H3 s3 => ⟨_, rfl, ?_⟩⟩
      rw [good.1]
      refine iteF ?_
      exact ⟨_, rfl, sm.trans s3⟩
    · rintro σ H2 ⟨z1, rfl, sm⟩
      exact q H2 (s1.trans sm)
def spCtc (K : PySem.W.Frag) (C : Addr) : Sp := fun vs H Q _ => ∃ (p dx : Addr) (fs : List (Str × V)) (b : Bd) (tn ts tr tl tc tm : Addr) (xr xl xc : List V), vs = [.ref p] ∧ H p = some (.ins C dx fs) ∧ Fl K H fs b tn ts tr tl tc xr xl xc ∧
  fs.lookup ("_movers" : Str) = some (.ref tm) ∧ SqT K H tm (b.movers.map V.str) ∧ b.contacts.length ≤ 40 ∧ (∀ c ∈ b.contacts, ctB b.nodes b.movers c = true) ∧ ∀ H', Same H H' → Q .non H'
theorem scCtc : FnScope ["self", "contact"] ["self"] (defScope sBoardCheckContacts) := ⟨rfl, rfl, rfl, by decide +kernel, rfl, by decide +kernel, by decide +kernel⟩
theorem ok_ctc {f fS C sp sg : Addr} {mc : Value} {fd fdS : FuncData} {k : Nat} (F : Fun K "_check_contacts" "Board._check_contacts" sBoardCheckContacts f fd) (T : BTxt K mg C mc sp sg)
    (FS : Fun K "is_contact" "is_contact" sIsContact fS fdS) (bS : Binds K fdS ["part", "nodes", "movers"] []) (gS : mg "is_contact" = some (.ref fS)) : FnOk P w K mg base CX0 (k + 2) f fd ["self"] (spCtc K C) := by
  have GS : FnOk P w K mg base CX0 (k + 1) fS fdS ["part", "nodes", "movers"] (spIsContact K) := ok_isContact FS T
  obtain ⟨t5, c5⟩ := T.c5
  refine F.ok scCtc (fun vs H Q E h => ?_) (fun cdv A outer s H vs Q E hr h => ?_)
  · obtain ⟨p, _, _, _, _, _, _, _, _, _, _, _, _, rfl, _⟩ := h
    rfl
  · obtain ⟨p, dx, fs, b, tn, ts, tr, tl, tc, tm, xr, xl, xc, rfl, hp, f, lm, hm, l40, okc, q⟩ := h
    refine ⟨_, pss_cons (ps_if (pt_cmpR op_gt (pe_callB call_len_seq (by rfl) T.len PySem.boot_len (pa_cons (pe_fld (pv 0) rfl) pa_nil)) (ClX.pe_cval (pe_glob (v := .ref C) rfl T.mgB rfl) rfl) (nomark _)) (pss_one ps_never) pss_nil)
      (pss_one (ps_for PassesOwn.never rfl (pi_tup (pe_fld (pv 0) rfl)) (pg_name (i := 1) scCtc.nd rfl (.inl rfl))
        (pss_one (ps_if (pt_not (pt_val (pe_call GS hr (by rfl) gS FS.kp bS .nil pass0 (pa_cons (pv 1) (pa_cons (pe_fld (pv 0) rfl) (pa_cons (pe_fld (pv 0) rfl) pa_nil)))))) (pss_one ps_never) pss_nil)))), ?_⟩
    have lc := f.rc.len
    rw [List.length_map] at lc
    refine ⟨_, rfl, p, C, dx, _, _, rfl, hp, T.cl, T.nC, f.lc, tc, _, rfl, .inr f.hc, C, mc, .int 40, _, rfl, T.cr, ⟨c5, ⟨_, rfl⟩⟩, _, _, rfl, rfl, _, rfl, ?_⟩
    rw [decide_eq_false (by omega)]
    refine iteF ?_
    refine ⟨_, rfl, p, C, dx, _, _, rfl, hp, T.cl, T.nC, f.lc, tc, rfl, ⟨_, f.hc⟩, for_tup (K := K) (a := tc) (xs := xc) (fun i σ H2 => ∃ z1 : Option V, σ = [some (.ref p), z1] ∧ Same H H2) ⟨none, rfl, Same.refl _⟩ (fun _ _ _ _ ⟨_, _, sm⟩ => Same.sqt sm f.hc) ?_ ?_⟩
    · rintro i v σ H2 hi ⟨z1, rfl, sm⟩
      obtain ⟨tt, rw_, rfl, hrow, hri⟩ := f.rc.at hi
      rw [List.getElem?_map] at hri
      obtain ⟨c, hc1, rfl⟩ := Option.map_eq_some_iff.mp hri
      have hm1 := List.mem_of_getElem? hc1
      refine ⟨_, rfl, _, rfl, p, C, dx, _, _, rfl, sm _ _ hp, T.cl, T.nN, f.ln, _, rfl, p, C, dx, _, _, rfl, sm _ _ hp, T.cl, T.nM, lm, tt, tn, tm, c, b.nodes, b.movers, rfl, Same.sqt sm hrow, .inr (Same.sqt sm f.hn), .inr (Same.sqt sm hm), fun H3 s3 => ⟨_, rfl, ?_⟩⟩
      rw [okc c hm1]
      refine iteF ?_
      exact ⟨_, rfl, sm.trans s3⟩
    · rintro σ H2 ⟨z1, rfl, sm⟩
      exact q H2 sm
def spChk (K : PySem.W.Frag) (C : Addr) : Sp := fun vs H Q _ => ∃ (p dx : Addr) (fs : List (Str × V)) (b : Bd) (tn ts tr tl tc tm : Addr) (xr xl xc : List V), vs = [.ref p] ∧ H p = some (.ins C dx fs) ∧ Fl K H fs b tn ts tr tl tc xr xl xc ∧
  fs.lookup ("_movers" : Str) = some (.ref tm) ∧ SqT K H tm (b.movers.map V.str) ∧ Few b ∧ b.Ok ∧ ∀ H', Same H H' → Q .non H'
theorem scChk : FnScope ["self", "lamps", "name", "_"] ["self"] (defScope sBoardCheckNames) := ⟨rfl, rfl, rfl, by decide +kernel, rfl, by decide +kernel, by decide +kernel⟩
theorem Few.mz {b : Bd} (f : Few b) : ∀ z ∈ b.movers, z.length ≤ 1000000 := fun z hz => by
  unfold Bd.movers at hz
  rcases List.mem_append.mp hz with h | h
  · exact f.sz z h
  · obtain ⟨r, hr, rfl⟩ := List.mem_map.mp h
    exact f.rz r hr
theorem ok_chk {f fA C sp sg : Addr} {mc : Value} {fd fdA fdI : FuncData} {k : Nat} (F : Fun K "_check_names" "Board._check_names" sBoardCheckNames f fd) (T : BTxt K mg C mc sp sg)
    (FA : Fun K "are_names" "are_names" sAreNames fA fdA) (bA : Binds K fdA ["names", "least", "most"] []) (gA : mg "are_names" = some (.ref fA)) (FI : Fun K "is_good_name" "is_good_name" sIsGoodName sg fdI) (bI : Binds K fdI ["text"] []) :
    FnOk P w K mg base CX0 (k + 3) f fd ["self"] (spChk K C) := by
  have GA : FnOk P w K mg base CX0 (k + 2) fA fdA ["names", "least", "most"] (spAreNames K) := ok_areNames FA T FI bI (fI := fA)
  obtain ⟨t1, c1⟩ := T.c1
  obtain ⟨t2, c2⟩ := T.c2
  obtain ⟨t3, c3⟩ := T.c3
  obtain ⟨t4, c4⟩ := T.c4
  obtain ⟨u2, g2⟩ := T.g2
  obtain ⟨u3, g3⟩ := T.g3
  refine F.ok scChk (fun vs H Q E h => ?_) (fun cdv A outer s H vs Q E hr h => ?_)
  · obtain ⟨p, _, _, _, _, _, _, _, _, _, _, _, _, rfl, _⟩ := h
    rfl
  · obtain ⟨p, dx, fs, b, tn, ts, tr, tl, tc, tm, xr, xl, xc, rfl, hp, f, lm, hm, few, ok, q⟩ := h
    refine ⟨_, pss_cons (ps_if (pt_not (pt_val (pe_call GA hr (by rfl) gA FA.kp bA .nil pass0 (pa_cons (pe_fld (pv 0) rfl) (pa_cons (pe_glob (v := .int 2) rfl g2 ⟨_, rfl⟩) (pa_cons (ClX.pe_cval (pe_glob (v := .ref C) rfl T.mgB rfl) rfl) pa_nil)))))) (pss_one ps_never) pss_nil)
      (pss_cons (ps_if (PW.pt (pw_or (pt_cmpR op_gt (pe_callB call_len_seq (by rfl) T.len PySem.boot_len (pa_cons (pe_fld (pv 0) rfl) pa_nil)) (ClX.pe_cval (pe_glob (v := .ref C) rfl T.mgB rfl) rfl) (nomark _))
          (pw_or1 (pt_cmpR op_gt (pe_callB call_len_seq (by rfl) T.len PySem.boot_len (pa_cons (pe_fld (pv 0) rfl) pa_nil)) (ClX.pe_cval (pe_glob (v := .ref C) rfl T.mgB rfl) rfl) (nomark _))))) (pss_one ps_never) pss_nil)
      (pss_cons (ps_if (pt_not (pt_val (pe_call GA hr (by rfl) gA FA.kp bA .nil pass0 (pa_cons (pe_fld (pv 0) rfl) (pa_cons pe_int (pa_cons (pe_callB call_len_seq (by rfl) T.len PySem.boot_len (pa_cons (pe_fld (pv 0) rfl) pa_nil)) pa_nil)))))) (pss_one ps_never) pss_nil)
      (pss_cons (ps_setLc (i := 1) (own := [("name", 2), ("_", 3)]) (g := gTup K 3 (gCons (gName 2) (gCons (gName 3) (gCons (gName 3) gNil)))) (tt := tYes) rfl scChk.nd rfl rfl (sw_true rfl rfl rfl (by decide +kernel)) (pi_tup (pe_fld (pv 0) rfl)) (blkOk_by (N := ["self", "lamps", "name", "_"]) (sc := defScope sBoardCheckNames) (by decide +kernel))
          (fun _ _ _ _ _ => pg_tup rfl (pgs_cons (pg_name (i := 2) scChk.nd rfl (Or.inl rfl)) (pgs_cons (pg_name (i := 3) scChk.nd rfl (Or.inl rfl)) (pgs_cons (pg_name (i := 3) scChk.nd rfl (Or.inl rfl)) pgs_nil)))) (fun _ _ _ _ _ => pts_nil) (fun _ _ _ _ _ => pv 2))
      (pss_one (ps_if (pt_not (pt_val (pe_call GA hr (by rfl) gA FA.kp bA .nil pass0 (pa_cons (pv 1) (pa_cons (pe_glob (v := .int 1) rfl g3 ⟨_, rfl⟩) (pa_cons (ClX.pe_cval (pe_glob (v := .ref C) rfl T.mgB rfl) rfl) pa_nil)))))) (pss_one ps_never) pss_nil))))), ?_⟩
    -- the nodes
    refine ⟨_, rfl, p, C, dx, _, _, rfl, hp, T.cl, T.nN, f.ln, C, mc, .int 16, _, rfl, T.cr, ⟨c1, ⟨_, rfl⟩⟩, tn, b.nodes, 2, 16, rfl, .inr f.hn, few.nz, few.n, fun H1 s1 => ⟨_, rfl, ?_⟩⟩
    rw [ok.nodes]
    refine iteF ?_
    -- the counts
    have lr := f.rr.len
    rw [List.length_map] at lr
    refine ⟨_, rfl, p, C, dx, _, _, rfl, s1 _ _ hp, T.cl, T.nS, f.ls, ts, _, rfl, .inr (Same.sqt s1 f.hs), C, mc, .int 6, _, rfl, T.cr, ⟨c2, ⟨_, rfl⟩⟩, _, _, rfl, rfl, _, rfl, ?_⟩
    rw [decide_eq_false (by rw [List.length_map]; have := ok.sw; omega)]
    refine iteF ?_
    refine ⟨_, rfl, p, C, dx, _, _, rfl, s1 _ _ hp, T.cl, T.nR, f.lr, tr, _, rfl, .inr (Same.sqt s1 f.hr), C, mc, .int 8, _, rfl, T.cr, ⟨c3, ⟨_, rfl⟩⟩, _, _, rfl, rfl, _, rfl, ?_⟩
    rw [decide_eq_false (by have := ok.rl; omega)]
    refine iteF ?_
    -- the movers
    have ml : b.movers.length ≤ 1000 := by
      unfold Bd.movers
      rw [List.length_append, List.length_map]
      have := ok.sw
      have := ok.rl
      omega
    refine ⟨_, rfl, p, C, dx, _, _, rfl, s1 _ _ hp, T.cl, T.nM, lm, _, rfl, p, C, dx, _, _, rfl, s1 _ _ hp, T.cl, T.nM, lm, tm, _, rfl, .inr (Same.sqt s1 hm), tm, b.movers, 0, b.movers.length, by rw [List.length_map]; rfl, .inr (Same.sqt s1 hm), few.mz, ml, fun H2 s2 => ⟨_, rfl, ?_⟩⟩
    rw [ok.mv]
    refine iteF ?_
    have s12 := s1.trans s2
    -- the lamps
    have ll := f.rl.len
    rw [List.length_map] at ll
    refine ⟨_, rfl, p, C, dx, _, _, rfl, s12 _ _ hp, T.cl, T.nL, f.ll, tl, rfl, ⟨_, Same.sqt s12 f.hl⟩, fun D hD => ?_⟩
    refine lc_tup (K := K) (a := tl) (xs := xl) (fun i H3 => Same H2 H3 ∧ H3 D = some (.lst (((b.lamps.map (·.nm)).take i).map V.str)))
      ⟨same_upd hD, upd_same⟩ (fun i H3 _ h => Same.sqt (s12.trans h.1) f.hl) ?_ ?_
    · rintro i v H3 hi ⟨sm, hd⟩
      have hil := (List.getElem?_eq_some_iff.mp hi).1
      obtain ⟨tt, rw_, rfl, hrow, hri⟩ := f.rl.at hi
      rw [List.getElem?_map] at hri
      obtain ⟨r, hr1, rfl⟩ := Option.map_eq_some_iff.mp hri
      refine ⟨tt, _, rfl, Same.sqt (s12.trans sm) hrow, rfl, _, _, rfl, _, _, rfl, _, _, rfl, rfl, rfl, ?_⟩
      refine yesT ?_
      refine ⟨_, rfl, _, hd, ?_, same_mut sm hD, ?_⟩
      · rw [List.length_map, List.length_take]
        have := few.l
        exact szlt (by rw [List.length_map]; omega)
      · rw [upd_same, ← map_snoc, List.take_add_one, List.getElem?_map, hr1]
        rfl
    · rintro H3 ⟨sm, hd⟩
      rw [ll, ← List.length_map (f := fun r : Sp3 => r.nm), List.take_length] at hd
      refine ⟨_, rfl, C, mc, .int 8, _, rfl, T.cr, ⟨c4, ⟨_, rfl⟩⟩, D, b.lamps.map (·.nm), 1, 8, rfl, .inl (sq hd), fun z hz => ?_, by rw [List.length_map]; exact few.l, fun H4 s4 => ⟨_, rfl, ?_⟩⟩
      · obtain ⟨r, hr1, rfl⟩ := List.mem_map.mp hz
        exact few.lz r hr1
      · rw [ok.lp]
        refine iteF ?_
        exact q H4 ((s12.trans sm).trans s4)
/-! ### Board.__init__ -/
def KeepP (p : Addr) (H H' : Hp) : Prop := ∀ a o, a ≠ p → H a = some o → H' a = some o
theorem KeepP.of {p : Addr} {H H' : Hp} (s : Same H H') : KeepP p H H' := fun a o _ h => s a o h
theorem KeepP.upd {p : Addr} {H : Hp} {o : HO} : KeepP p H (L2.upd H p o) := fun a x n h => by rw [upd_ne n]; exact h
theorem KeepP.trans {p : Addr} {H H1 H2 : Hp} (a : KeepP p H H1) (b : KeepP p H1 H2) : KeepP p H H2 := fun x o n h => b x o n (a x o n h)
theorem KeepP.sqt {K : PySem.W.Frag} {p a C dx : Addr} {fs : List (Str × V)} {H H' : Hp} {xs : List V} (k : KeepP p H H') (hp : H p = some (.ins C dx fs)) (h : SqT K H a xs) : SqT K H' a xs := by
  rcases h with (h | ⟨o, h⟩) | h
  · exact .inl (.inl (k _ _ (ne_of h hp (by intro z; cases z)) h))
  · exact .inl (.inr ⟨o, k _ _ (ne_of h hp (by intro z; cases z)) h⟩)
  · exact .inr h
theorem KeepP.rows {K : PySem.W.Frag} {p C dx : Addr} {fs : List (Str × V)} {H H' : Hp} (k : KeepP p H H') (hp : H p = some (.ins C dx fs)) : ∀ {xs : List V} {rs : List (List V)}, Rows K H xs rs → Rows K H' xs rs
  | [], [], _ => True.intro
  | _ :: _, _ :: _, ⟨⟨t, e, h⟩, r⟩ => ⟨⟨t, e, k.sqt hp h⟩, k.rows hp r⟩
/-- rows that may be lists -/
def RowsA (K : PySem.W.Frag) (H : Hp) : List V → List (List V) → Prop
  | [], [] => True
  | v :: xs, r :: rs => (∃ t, v = .ref t ∧ Sq K H t r) ∧ RowsA K H xs rs
  | _, _ => False
theorem RowsA.of {K : PySem.W.Frag} {H : Hp} : ∀ {xs : List V} {rs : List (List V)}, Rows K H xs rs → RowsA K H xs rs
  | [], [], _ => True.intro
  | _ :: _, _ :: _, ⟨⟨t, e, h⟩, r⟩ => ⟨⟨t, e, .inr h⟩, RowsA.of r⟩
theorem RowsA.len {K : PySem.W.Frag} {H : Hp} : ∀ {xs : List V} {rs : List (List V)}, RowsA K H xs rs → xs.length = rs.length
  | [], [], _ => rfl
  | _ :: _, _ :: _, ⟨_, r⟩ => congrArg (· + 1) r.len
theorem RowsA.at {K : PySem.W.Frag} {H : Hp} : ∀ {xs : List V} {rs : List (List V)} {i : Nat} {v : V}, RowsA K H xs rs → xs[i]? = some v → ∃ t r, v = .ref t ∧ Sq K H t r ∧ rs[i]? = some r
  | [], [], _, _, _, h => by simp at h
  | _ :: _, r :: _, 0, _, ⟨⟨t, e, h⟩, _⟩, hi => ⟨t, r, by rw [← Option.some.inj hi]; exact e, h, rfl⟩
  | _ :: _, _ :: _, i + 1, _, ⟨_, r⟩, hi => RowsA.at (i := i) r hi
@[irreducible] def rTup (K : PySem.W.Frag) : List V → Hp → VK → Prop := fun xs H Q => ∃ p ys, xs = [.ref p] ∧ ((SqL K H p ys ∧ ∀ l, H l = none → Q (.ref l) (upd H l (.tup ys))) ∨ (SqT K H p ys ∧ Q (.ref p) H))
theorem call_tupA {X : Cx} : CallR X (.type "tuple") (rTup X.K) := by
  unfold rTup
  exact call_tuple_of
theorem tup_any {K : PySem.W.Frag} {a : Addr} {xs : List V} {H : Hp} {Q : VK} (h : Sq K H a xs) (q : ∀ p H', Same H H' → SqT K H' p xs → Q (.ref p) H') :
    rTup K [.ref a] H Q := by
  unfold rTup
  rcases h with h | h
  · exact ⟨a, xs, rfl, .inl ⟨h, fun l nl => q l _ (same_upd nl) (st upd_same)⟩⟩
  · exact ⟨a, xs, rfl, .inr ⟨h, q a H (Same.refl H) h⟩⟩
def fl1 (tn : Addr) : List (Str × V) := putF "nodes" (.ref tn) []
def fl2 (tn ts : Addr) : List (Str × V) := putF "switches" (.ref ts) (fl1 tn)
def fl3 (tn ts tr : Addr) : List (Str × V) := putF "relays" (.ref tr) (fl2 tn ts)
def fl4 (tn ts tr tl : Addr) : List (Str × V) := putF "lamps" (.ref tl) (fl3 tn ts tr)
def fl5 (tn ts tr tl tc : Addr) : List (Str × V) := putF "contacts" (.ref tc) (fl4 tn ts tr tl)
def fl6 (tn ts tr tl tc tm : Addr) : List (Str × V) := putF "_movers" (.ref tm) (fl5 tn ts tr tl tc)
theorem fl5_at (tn ts tr tl tc : Addr) (m : Str) : (fl5 tn ts tr tl tc).lookup m = if m = "contacts" then some (.ref tc) else if m = "lamps" then some (.ref tl) else if m = "relays" then some (.ref tr) else if m = "switches" then some (.ref ts) else if m = "nodes" then some (.ref tn) else none := by
  unfold fl5 fl4 fl3 fl2 fl1
  rw [lookup_putF, lookup_putF, lookup_putF, lookup_putF, lookup_putF]
  rfl
theorem fl6_at (tn ts tr tl tc tm : Addr) (m : Str) : (fl6 tn ts tr tl tc tm).lookup m = if m = "_movers" then some (.ref tm) else (fl5 tn ts tr tl tc).lookup m := by
  unfold fl6
  rw [lookup_putF]
theorem fl_len5 (tn ts tr tl tc : Addr) : (fl5 tn ts tr tl tc).length ≤ 5 ∧ (fl4 tn ts tr tl).length ≤ 4 ∧ (fl3 tn ts tr).length ≤ 3 ∧ (fl2 tn ts).length ≤ 2 ∧ (fl1 tn).length ≤ 1 := by
  have h1 : (fl1 tn).length ≤ 0 + 1 := putF_len _ _ []
  have h2 : (fl2 tn ts).length ≤ (fl1 tn).length + 1 := putF_len _ _ _
  have h3 : (fl3 tn ts tr).length ≤ (fl2 tn ts).length + 1 := putF_len _ _ _
  have h4 : (fl4 tn ts tr tl).length ≤ (fl3 tn ts tr).length + 1 := putF_len _ _ _
  have h5 : (fl5 tn ts tr tl tc).length ≤ (fl4 tn ts tr tl).length + 1 := putF_len _ _ _
  omega
theorem fl5_nodes (tn ts tr tl tc : Addr) : (fl5 tn ts tr tl tc).lookup ("nodes" : Str) = some (.ref tn) := by
  rw [fl5_at, if_neg (by decide +kernel), if_neg (by decide +kernel), if_neg (by decide +kernel), if_neg (by decide +kernel), if_pos rfl]
theorem fl5_switches (tn ts tr tl tc : Addr) : (fl5 tn ts tr tl tc).lookup ("switches" : Str) = some (.ref ts) := by
  rw [fl5_at, if_neg (by decide +kernel), if_neg (by decide +kernel), if_neg (by decide +kernel), if_pos rfl]
theorem fl5_relays (tn ts tr tl tc : Addr) : (fl5 tn ts tr tl tc).lookup ("relays" : Str) = some (.ref tr) := by
  rw [fl5_at, if_neg (by decide +kernel), if_neg (by decide +kernel), if_pos rfl]
theorem fl5_lamps (tn ts tr tl tc : Addr) : (fl5 tn ts tr tl tc).lookup ("lamps" : Str) = some (.ref tl) := by
  rw [fl5_at, if_neg (by decide +kernel), if_pos rfl]
theorem fl5_contacts (tn ts tr tl tc : Addr) : (fl5 tn ts tr tl tc).lookup ("contacts" : Str) = some (.ref tc) := by
  rw [fl5_at, if_pos rfl]
theorem fl6_old (tn ts tr tl tc tm : Addr) {m : Str} (h : ¬ m = "_movers") : (fl6 tn ts tr tl tc tm).lookup m = (fl5 tn ts tr tl tc).lookup m := by rw [fl6_at, if_neg h]
theorem fl6_only (tn ts tr tl tc tm : Addr) (m : Str) (h : m ∉ onlyNames) : (fl6 tn ts tr tl tc tm).lookup m = none := by
  unfold onlyNames at h
  simp only [List.mem_cons, List.not_mem_nil, or_false, not_or] at h
  rw [fl6_at, if_neg h.2.2.2.2.2, fl5_at, if_neg h.2.2.2.2.1, if_neg h.2.2.2.1, if_neg h.2.2.1, if_neg h.2.1, if_neg h.1]
theorem fl5_only (tn ts tr tl tc : Addr) (m : Str) (h : m ∉ onlyNames) : (fl5 tn ts tr tl tc).lookup m = none := by
  unfold onlyNames at h
  simp only [List.mem_cons, List.not_mem_nil, or_false, not_or] at h
  rw [fl5_at, if_neg h.2.2.2.2.1, if_neg h.2.2.2.1, if_neg h.2.2.1, if_neg h.2.1, if_neg h.1]
/-- what is handed to Board(..): lists or tuples of the parts -/
structure Given (K : PySem.W.Frag) (H : Hp) (b : Bd) (an al as ar ac : Addr) : Prop where
  n : Sq K H an (b.nodes.map V.str)
  s : Sq K H as (b.switches.map V.str)
  l : ∃ xs, Sq K H al xs ∧ RowsA K H xs (b.lamps.map Sp3.row)
  r : ∃ xs, Sq K H ar xs ∧ RowsA K H xs (b.relays.map Sp3.row)
  c : ∃ xs, Sq K H ac xs ∧ RowsA K H xs (b.contacts.map Ct.row)
theorem RowsA.mono {K : PySem.W.Frag} {H H' : Hp} (s : Same H H') : ∀ {xs : List V} {rs : List (List V)}, RowsA K H xs rs → RowsA K H' xs rs
  | [], [], _ => True.intro
  | _ :: _, _ :: _, ⟨⟨t, e, h⟩, r⟩ => ⟨⟨t, e, Same.sq s h⟩, r.mono s⟩
theorem Given.mono {K : PySem.W.Frag} {H H' : Hp} {b : Bd} {an al as ar ac : Addr} (s : Same H H') (g : Given K H b an al as ar ac) : Given K H' b an al as ar ac :=
  ⟨Same.sq s g.n, Same.sq s g.s, g.l.imp fun _ h => ⟨Same.sq s h.1, h.2.mono s⟩, g.r.imp fun _ h => ⟨Same.sq s h.1, h.2.mono s⟩, g.c.imp fun _ h => ⟨Same.sq s h.1, h.2.mono s⟩⟩
def spInit (K : PySem.W.Frag) (C : Addr) : Sp := fun vs H Q _ => ∃ (p dx : Addr) (H0 : Hp) (an al as ar ac : Addr) (b : Bd), vs = [.ref p, .ref an, .ref al, .ref as, .ref ar, .ref ac] ∧ H p = some (.ins C dx []) ∧ H0 p = none ∧ Same H0 H ∧ Given K H0 b an al as ar ac ∧ Few b ∧ b.Ok ∧
  ∀ H', Same H0 H' → BoardAt K C H' p b → Q .non H'
theorem scInit : FnScope ["self", "nodes", "lamps", "switches", "relays", "contacts", "relay", "lamp", "contact", "name", "_"] ["self", "nodes", "lamps", "switches", "relays", "contacts"] (defScope sBoardInit) := ⟨rfl, rfl, rfl, by decide +kernel, rfl, by decide +kernel, by decide +kernel⟩
structure BMeths (K : PySem.W.Frag) (C fS fN fC : Addr) : Prop where
  ms : Meth K C "_check_spans" fS
  mn : Meth K C "_check_names" fN
  mc : Meth K C "_check_contacts" fC
theorem rows_loop {K : PySem.W.Frag} {H1 : Hp} {D : Addr} {xs : List V} {rs : List (List V)} {vs : List Nat} {σ : L2.St} {j : Nat} {Qd : Hp → Prop} {J : It} {te : TE} {G : Hp → Prop} (wj : Walk J xs.length G (YAt xs)) (hS : ∀ H2, Same H1 H2 → G H2) (hR : RowsA K H1 xs rs) (hlen : rs.length ≤ 1000) (hD : H1 D = none)
    (hw : ∀ t, wipe ((wipe σ vs).set j (some (.ref t))) vs = wipe σ vs)
    (ht : ∀ t H2 r (Q : VK), Same H1 H2 → Sq K H2 t r → (∀ p H3, Same H2 H3 → SqT K H3 p r → Q (.ref p) H3) → te ((wipe σ vs).set j (some (.ref t))) H2 Q)
    (hd : ∀ H2 ys, Same H1 H2 → H2 D = some (.lst ys) → Rows K H2 ys rs → Qd H2) :
    ∃ W : Nat → Nat → Hp → Prop, (∃ m, W 0 m (upd H1 D (.lst []))) ∧ ∀ i m H, W i m H →
      (J.stop i H ∧ Qd H) ∨ (J.go i H ∧ ∃ Nx : Hp → Prop, (∀ H', Nx H' → ∃ m', m' < m ∧ W (i + 1) m' H') ∧ ∀ x H', J.yld i H x H' → gName j x (wipe σ vs) H' fun σ2 H2 => wipe σ2 vs = wipe σ vs ∧ tYes σ2 H2 fun b H3 =>
        if b = true then te σ2 H3 fun y H4 => ∃ acc, H4 D = some (.lst acc) ∧ acc.length < sizeLine ∧ Nx (upd H4 D (.lst (acc ++ [y]))) else Nx H3) := by
  refine lc_it wj (fun i H2 => ∃ ys, Same H1 H2 ∧ H2 D = some (.lst ys) ∧ Rows K H2 ys (rs.take i)) ⟨[], same_upd hD, upd_same, True.intro⟩ (fun i H2 _ ⟨_, sm, _⟩ => hS H2 sm) ?_ ?_
  · rintro i v H2 H3 hi ⟨ys, sm, hd2, hr2⟩ ⟨rfl, hv⟩
    obtain ⟨t, r, rfl, hrow, hri⟩ := hR.at hv
    refine ⟨hw t, ?_⟩
    refine yesT ?_
    refine ht t H3 r _ sm (Same.sq sm hrow) fun p H4 s4 hp => ?_
    have nD : ∀ q w, SqT K H4 q w → SqT K (upd H4 D (.lst (ys ++ [.ref p]))) q w := fun q w hq => by
      have hd4 := s4 _ _ hd2
      rcases hq with (hq | ⟨o, hq⟩) | hq
      · exact .inl (.inl (by rw [upd_ne (ne_of hq hd4 (by intro z; cases z))]; exact hq))
      · exact .inl (.inr ⟨o, by rw [upd_ne (ne_of hq hd4 (by intro z; cases z))]; exact hq⟩)
      · exact .inr hq
    refine ⟨ys, s4 _ _ hd2, ?_, ys ++ [.ref p], same_mut (sm.trans s4) hD, upd_same, ?_⟩
    · have := hr2.len
      rw [List.length_take] at this
      exact szlt (by omega)
    · rw [List.take_add_one, hri]
      have up : ∀ {xs : List V} {ws : List (List V)}, Rows K H4 xs ws → Rows K (upd H4 D (.lst (ys ++ [.ref p]))) xs ws := by
        intro xs
        induction xs with
        | nil => intro ws h; cases ws with | nil => exact True.intro | cons _ _ => exact h
        | cons x xs ih => intro ws h; cases ws with | nil => exact h | cons w ws => exact ⟨h.1.imp fun q y => ⟨y.1, nD _ _ y.2⟩, ih h.2⟩
      exact (up (hr2.mono s4)).snoc (nD _ _ hp)
  · rintro H2 ⟨ys, sm, hd2, hr2⟩
    rw [hR.len, List.take_length] at hr2
    exact hd H2 ys sm hd2 hr2
theorem seq_rows {K : PySem.W.Frag} {H1 : Hp} {a : Addr} {xs : List V} {rs : List (List V)} {vs : List Nat} {σ : L2.St} {j : Nat} {Qd : Addr → Hp → Prop} {te : TE} (hq : Sq K H1 a xs) (hR : RowsA K H1 xs rs) (hlen : rs.length ≤ 1000)
    (hw : ∀ t, wipe ((wipe σ vs).set j (some (.ref t))) vs = wipe σ vs)
    (ht : ∀ t H2 r (Q : VK), Same H1 H2 → Sq K H2 t r → (∀ p H3, Same H2 H3 → SqT K H3 p r → Q (.ref p) H3) → te ((wipe σ vs).set j (some (.ref t))) H2 Q)
    (hd : ∀ D H2 ys, Same H1 H2 → H2 D = some (.lst ys) → Rows K H2 ys rs → Qd D H2) :
    (SqL K H1 a xs ∧ ∀ D, H1 D = none → ∃ W : Nat → Nat → Hp → Prop, (∃ m, W 0 m (upd H1 D (.lst []))) ∧ ∀ i m H, W i m H →
      ((Itl K a).stop i H ∧ Qd D H) ∨ ((Itl K a).go i H ∧ ∃ Nx : Hp → Prop, (∀ H', Nx H' → ∃ m', m' < m ∧ W (i + 1) m' H') ∧ ∀ x H', (Itl K a).yld i H x H' → gName j x (wipe σ vs) H' fun σ2 H2 => wipe σ2 vs = wipe σ vs ∧ tYes σ2 H2 fun b H3 =>
        if b = true then te σ2 H3 fun y H4 => ∃ acc, H4 D = some (.lst acc) ∧ acc.length < sizeLine ∧ Nx (upd H4 D (.lst (acc ++ [y]))) else Nx H3)) ∨
    (SqT K H1 a xs ∧ ∀ D, H1 D = none → ∃ W : Nat → Nat → Hp → Prop, (∃ m, W 0 m (upd H1 D (.lst []))) ∧ ∀ i m H, W i m H →
      ((Itt K a).stop i H ∧ Qd D H) ∨ ((Itt K a).go i H ∧ ∃ Nx : Hp → Prop, (∀ H', Nx H' → ∃ m', m' < m ∧ W (i + 1) m' H') ∧ ∀ x H', (Itt K a).yld i H x H' → gName j x (wipe σ vs) H' fun σ2 H2 => wipe σ2 vs = wipe σ vs ∧ tYes σ2 H2 fun b H3 =>
        if b = true then te σ2 H3 fun y H4 => ∃ acc, H4 D = some (.lst acc) ∧ acc.length < sizeLine ∧ Nx (upd H4 D (.lst (acc ++ [y]))) else Nx H3)) := by
  rcases hq with h | h
  · exact .inl ⟨h, fun D hD => rows_loop walk_list (fun G y => y.seq h) hR hlen hD hw ht (hd D)⟩
  · exact .inr ⟨h, fun D hD => rows_loop walk_tup (fun G y => Same.sqt y h) hR hlen hD hw ht (hd D)⟩
theorem bt_tuple : bootBuiltins "tuple" = some (.type "tuple") := by decide +kernel
theorem ok_init {f fS fN fC fI1 fI2 fI3 C sp sg : Addr} {mc : Value} {fd fdS fdN fdC fdI1 fdI2 fdI3 fdI : FuncData} {k : Nat} (F : Fun K "__init__" "Board.__init__" sBoardInit f fd) (T : BTxt K mg C mc sp sg) (M : BMeths K C fS fN fC)
    (FS : Fun K "_check_spans" "Board._check_spans" sBoardCheckSpans fS fdS) (bS : Binds K fdS ["self"] []) (FN : Fun K "_check_names" "Board._check_names" sBoardCheckNames fN fdN) (bN : Binds K fdN ["self"] [])
    (FC : Fun K "_check_contacts" "Board._check_contacts" sBoardCheckContacts fC fdC) (bC : Binds K fdC ["self"] [])
    (F1 : Fun K "is_span" "is_span" sIsSpan fI1 fdI1) (b1 : Binds K fdI1 ["part", "nodes"] []) (g1 : mg "is_span" = some (.ref fI1))
    (F2 : Fun K "are_names" "are_names" sAreNames fI2 fdI2) (b2 : Binds K fdI2 ["names", "least", "most"] []) (g2 : mg "are_names" = some (.ref fI2))
    (F3 : Fun K "is_contact" "is_contact" sIsContact fI3 fdI3) (b3 : Binds K fdI3 ["part", "nodes", "movers"] []) (g3 : mg "is_contact" = some (.ref fI3))
    (FI : Fun K "is_good_name" "is_good_name" sIsGoodName sg fdI) (bI : Binds K fdI ["text"] []) :
    FnOk P w K mg base CX0 (k + 4) f fd ["self", "nodes", "lamps", "switches", "relays", "contacts"] (spInit K C) := by
  have GS : FnOk P w K mg base CX0 (k + 3) fS fdS ["self"] (spSpans K C) := ok_spans FS T F1 b1 g1 FI bI
  have GN : FnOk P w K mg base CX0 (k + 3) fN fdN ["self"] (spChk K C) := ok_chk FN T F2 b2 g2 FI bI
  have GC : FnOk P w K mg base CX0 (k + 2) fC fdC ["self"] (spCtc K C) := ok_ctc FC T F3 b3 g3
  refine F.ok scInit (fun vs H Q E h => ?_) (fun cdv A outer s H vs Q E hr h => ?_)
  · obtain ⟨p, dx, H0, an, al, as, ar, ac, b, rfl, _⟩ := h
    rfl
  · obtain ⟨p, dx, H0, an, al, as, ar, ac, b, rfl, hp, np, s0, gv, few, ok, q⟩ := h
    have hr2 : Room (k + 2) _ := hr.mono (Nat.le_succ _)
    refine ⟨_, pss_cons (ps_fld (pv 0) (pe_callTy call_tupA (by rfl) T.tup (by decide +kernel) (pa_cons (pv 1) pa_nil)) rfl)
      (pss_cons (ps_fld (pv 0) (pe_callTy call_tupA (by rfl) T.tup (by decide +kernel) (pa_cons (pv 3) pa_nil)) rfl)
      (pss_cons (ps_fld (pv 0) (pe_callTy call_tupA (by rfl) T.tup (by decide +kernel) (pa_cons (pe_lc (own := [("relay", 6)]) (g := gName 6) (tt := tYes) (te := tCB (rTup K) (tCons (tVar 6) tNil)) rfl scInit.nd (pi_seqA (pv 4)) (blkOk_by (N := ["self", "nodes", "lamps", "switches", "relays", "contacts", "relay", "lamp", "contact", "name", "_"]) (sc := defScope sBoardInit) (by decide +kernel)) (fun _ _ _ _ _ => pg_name (i := 6) scInit.nd rfl (Or.inl rfl)) (fun _ _ _ _ _ => pts_nil)
          (fun _ _ _ _ _ => pe_callTy call_tupA (by rfl) T.tup bt_tuple (pa_cons (pv 6) pa_nil))) pa_nil)) rfl)
      (pss_cons (ps_fld (pv 0) (pe_callTy call_tupA (by rfl) T.tup (by decide +kernel) (pa_cons (pe_lc (own := [("lamp", 7)]) (g := gName 7) (tt := tYes) (te := tCB (rTup K) (tCons (tVar 7) tNil)) rfl scInit.nd (pi_seqA (pv 2)) (blkOk_by (N := ["self", "nodes", "lamps", "switches", "relays", "contacts", "relay", "lamp", "contact", "name", "_"]) (sc := defScope sBoardInit) (by decide +kernel)) (fun _ _ _ _ _ => pg_name (i := 7) scInit.nd rfl (Or.inl rfl)) (fun _ _ _ _ _ => pts_nil)
          (fun _ _ _ _ _ => pe_callTy call_tupA (by rfl) T.tup bt_tuple (pa_cons (pv 7) pa_nil))) pa_nil)) rfl)
      (pss_cons (ps_fld (pv 0) (pe_callTy call_tupA (by rfl) T.tup (by decide +kernel) (pa_cons (pe_lc (own := [("contact", 8)]) (g := gName 8) (tt := tYes) (te := tCB (rTup K) (tCons (tVar 8) tNil)) rfl scInit.nd (pi_seqA (pv 5)) (blkOk_by (N := ["self", "nodes", "lamps", "switches", "relays", "contacts", "relay", "lamp", "contact", "name", "_"]) (sc := defScope sBoardInit) (by decide +kernel)) (fun _ _ _ _ _ => pg_name (i := 8) scInit.nd rfl (Or.inl rfl)) (fun _ _ _ _ _ => pts_nil)
          (fun _ _ _ _ _ => pe_callTy call_tupA (by rfl) T.tup bt_tuple (pa_cons (pv 8) pa_nil))) pa_nil)) rfl)
      (pss_cons (ps_expr (pe_meth0 (pv 0) T.cl M.ms GS hr bS .nil pass0))
      (pss_cons (ps_fld (pv 0) (pe_op op_catA (pe_fld (pv 0) rfl) (pe_callTy call_tupA (by rfl) T.tup (by decide +kernel) (pa_cons (pe_lc (own := [("name", 9), ("_", 10)]) (g := gTup K 3 (gCons (gName 9) (gCons (gName 10) (gCons (gName 10) gNil)))) (tt := tYes) rfl scInit.nd (pi_tup (pe_fld (pv 0) rfl)) (blkOk_by (N := ["self", "nodes", "lamps", "switches", "relays", "contacts", "relay", "lamp", "contact", "name", "_"]) (sc := defScope sBoardInit) (by decide +kernel))
          (fun _ _ _ _ _ => pg_tup rfl (pgs_cons (pg_name (i := 9) scInit.nd rfl (Or.inl rfl)) (pgs_cons (pg_name (i := 10) scInit.nd rfl (Or.inl rfl)) (pgs_cons (pg_name (i := 10) scInit.nd rfl (Or.inl rfl)) pgs_nil)))) (fun _ _ _ _ _ => pts_nil) (fun _ _ _ _ _ => pv 9)) pa_nil))) rfl)
      (pss_cons (ps_expr (pe_meth0 (pv 0) T.cl M.mn GN hr bN .nil pass0))
      (pss_one (ps_expr (pe_meth0 (pv 0) T.cl M.mc GC hr2 bC .nil pass0)))))))))), ?_⟩
    -- nodes
    refine ⟨_, rfl, ?_⟩
    refine tup_any (Same.sq s0 gv.n) fun tn H1 s1 hn => ?_
    refine ⟨_, rfl, p, C, dx, _, rfl, s1 _ _ hp, T.cl, T.nN, by decide, ?_⟩
    have e1 : Same H0 (upd H1 p (.ins C dx (fl1 tn))) := same_mut (s0.trans s1) np
    -- switches
    refine ⟨_, rfl, ?_⟩
    refine tup_any (Same.sq e1 gv.s) fun ts H2 s2 hs => ?_
    refine ⟨_, rfl, p, C, dx, _, rfl, s2 _ _ upd_same, T.cl, T.nS, by have := fl_len5 tn ts p p p; exact Nat.lt_of_le_of_lt this.2.2.2.2 (by decide), ?_⟩
    have e2 : Same H0 (upd H2 p (.ins C dx (fl2 tn ts))) := same_mut (e1.trans s2) np
    -- relays
    obtain ⟨xr0, gr, rr0⟩ := gv.r
    obtain ⟨xl0, gl, rl0⟩ := gv.l
    obtain ⟨xc0, gc, rc0⟩ := gv.c
    have gr2 := Same.sq e2 gr
    have hr3 := Same.sq e2 gr
    refine ⟨_, rfl, ar, xr0, rfl, seq_rows hr3 (rr0.mono e2) (by rw [List.length_map]; exact few.r) (fun _ => rfl) (fun t G r Q' _ h q' => ⟨_, rfl, tup_any h q'⟩) fun D1 H3 yr s3 hD1 rr => ?_⟩
    refine tup_any (.inl (sq hD1)) fun tr H4 s4 htr => ?_
    refine ⟨_, rfl, p, C, dx, _, rfl, s4 _ _ (s3 _ _ upd_same), T.cl, T.nR, by have := fl_len5 tn ts p p p; exact Nat.lt_of_le_of_lt this.2.2.2.1 (by decide), ?_⟩
    have e4 : Same H0 (upd H4 p (.ins C dx (fl3 tn ts tr))) := same_mut ((e2.trans s3).trans s4) np
    -- lamps
    refine ⟨_, rfl, al, xl0, rfl, seq_rows (Same.sq e4 gl) (rl0.mono e4) (by rw [List.length_map]; exact few.l) (fun _ => rfl) (fun t G r Q' _ h q' => ⟨_, rfl, tup_any h q'⟩) fun D2 H5 yl s5 hD2 rl => ?_⟩
    refine tup_any (.inl (sq hD2)) fun tl H6 s6 htl => ?_
    refine ⟨_, rfl, p, C, dx, _, rfl, s6 _ _ (s5 _ _ upd_same), T.cl, T.nL, by have := fl_len5 tn ts tr p p; exact Nat.lt_of_le_of_lt this.2.2.1 (by decide), ?_⟩
    have e6 : Same H0 (upd H6 p (.ins C dx (fl4 tn ts tr tl))) := same_mut ((e4.trans s5).trans s6) np
    -- contacts
    refine ⟨_, rfl, ac, xc0, rfl, seq_rows (Same.sq e6 gc) (rc0.mono e6) (by rw [List.length_map]; exact few.c) (fun _ => rfl) (fun t G r Q' _ h q' => ⟨_, rfl, tup_any h q'⟩) fun D3 H7 yc s7 hD3 rc => ?_⟩
    refine tup_any (.inl (sq hD3)) fun tc H8 s8 htc => ?_
    refine ⟨_, rfl, p, C, dx, _, rfl, s8 _ _ (s7 _ _ upd_same), T.cl, T.nC, by have := fl_len5 tn ts tr tl p; exact Nat.lt_of_le_of_lt this.2.1 (by decide), ?_⟩
    have e8 : Same H0 (upd H8 p (.ins C dx (fl5 tn ts tr tl tc))) := same_mut ((e6.trans s7).trans s8) np
    -- what stands
    have k8 : KeepP p H8 (upd H8 p (.ins C dx (fl5 tn ts tr tl tc))) := KeepP.upd
    have k6 : KeepP p H6 (upd H8 p (.ins C dx (fl5 tn ts tr tl tc))) := ((KeepP.upd.trans (.of s7)).trans (.of s8)).trans k8
    have k4 : KeepP p H4 (upd H8 p (.ins C dx (fl5 tn ts tr tl tc))) := ((KeepP.upd.trans (.of s5)).trans (.of s6)).trans k6
    have k2 : KeepP p H2 (upd H8 p (.ins C dx (fl5 tn ts tr tl tc))) := ((KeepP.upd.trans (.of s3)).trans (.of s4)).trans k4
    have k1 : KeepP p H1 (upd H8 p (.ins C dx (fl5 tn ts tr tl tc))) := (KeepP.upd.trans (.of s2)).trans k2
    have p4 : H4 p = some (.ins C dx (fl2 tn ts)) := s4 _ _ (s3 _ _ upd_same)
    have p6 : H6 p = some (.ins C dx (fl3 tn ts tr)) := s6 _ _ (s5 _ _ upd_same)
    have p8 : H8 p = some (.ins C dx (fl4 tn ts tr tl)) := s8 _ _ (s7 _ _ upd_same)
    have f5 : Fl K (upd H8 p (.ins C dx (fl5 tn ts tr tl tc))) (fl5 tn ts tr tl tc) b tn ts tr tl tc yr yl yc :=
      ⟨fl5_nodes .., fl5_switches .., fl5_relays .., fl5_lamps .., fl5_contacts .., k1.sqt (s1 _ _ hp) hn, k2.sqt (s2 _ _ upd_same) hs, k4.sqt p4 htr, k6.sqt p6 htl, k8.sqt p8 htc, k4.rows p4 (rr.mono s4), k6.rows p6 (rl.mono s6), k8.rows p8 (rc.mono s8)⟩
    -- _check_spans
    refine ⟨_, rfl, p, dx, _, rfl, upd_same, fl5_only _ _ _ _ _ _ (by decide +kernel), p, dx, _, b, tn, ts, tr, tl, tc, yr, yl, yc, rfl, upd_same, f5, few, ok.spR, ok.spL, fun H9 s9 => ?_⟩
    have f9 := f5.mono s9
    have hp9 := s9 _ _ (upd_same (H := H8) (a := p) (o := .ins C dx (fl5 tn ts tr tl tc)))
    -- _movers
    refine ⟨_, rfl, p, C, dx, _, _, rfl, hp9, T.cl, T.nS, f9.ls, _, rfl, p, C, dx, _, _, rfl, hp9, T.cl, T.nR, f9.lr, tr, rfl, ⟨_, f9.hr⟩, fun D4 hD4 => ?_⟩
    have lr := f9.rr.len
    rw [List.length_map] at lr
    refine lc_tup (K := K) (a := tr) (xs := yr) (fun i G => Same H9 G ∧ G D4 = some (.lst (((b.relays.map (·.nm)).take i).map V.str)))
      ⟨same_upd hD4, upd_same⟩ (fun i G _ h => Same.sqt h.1 f9.hr) ?_ ?_
    · rintro i v G hi ⟨sm, hd⟩
      obtain ⟨tt, rw_, rfl, hrow, hri⟩ := f9.rr.at hi
      rw [List.getElem?_map] at hri
      obtain ⟨r, hr1, rfl⟩ := Option.map_eq_some_iff.mp hri
      refine ⟨tt, _, rfl, Same.sqt sm hrow, rfl, _, _, rfl, _, _, rfl, _, _, rfl, rfl, rfl, ?_⟩
      refine yesT ?_
      refine ⟨_, rfl, _, hd, ?_, same_mut sm hD4, ?_⟩
      · rw [List.length_map, List.length_take]
        have := few.r
        exact szlt (by rw [List.length_map]; omega)
      · rw [upd_same, ← map_snoc, List.take_add_one, List.getElem?_map, hr1]
        rfl
    · rintro H10 ⟨sm, hd⟩
      rw [lr, ← List.length_map (f := fun r : Sp3 => r.nm), List.take_length] at hd
      refine tup_any (.inl (sq hd)) fun t2 H11 s11 ht2 => ?_
      have s9b := sm.trans s11
      refine cat_any (Same.sqt s9b f9.hs) ht2 (by rw [List.length_map, List.length_map, List.length_map]; have := few.s; have := few.r; omega) fun tm H12 s12 htm => ?_
      have s9c := s9b.trans s12
      rw [← List.map_append] at htm
      refine ⟨_, rfl, p, C, dx, _, rfl, s9c _ _ hp9, T.cl, T.nM, by have := fl_len5 tn ts tr tl tc; exact Nat.lt_of_le_of_lt this.1 (by decide), ?_⟩
      have kf : KeepP p H12 (upd H12 p (.ins C dx (fl6 tn ts tr tl tc tm))) := KeepP.upd
      have p12 := s9c _ _ hp9
      have f12 := f9.mono s9c
      have e12 : Same H0 (upd H12 p (.ins C dx (fl6 tn ts tr tl tc tm))) := same_mut ((e8.trans s9).trans s9c) np
      have f13 : Fl K (upd H12 p (.ins C dx (fl6 tn ts tr tl tc tm))) (fl6 tn ts tr tl tc tm) b tn ts tr tl tc yr yl yc :=
        ⟨by rw [fl6_old _ _ _ _ _ _ (by decide +kernel)]; exact fl5_nodes .., by rw [fl6_old _ _ _ _ _ _ (by decide +kernel)]; exact fl5_switches .., by rw [fl6_old _ _ _ _ _ _ (by decide +kernel)]; exact fl5_relays .., by rw [fl6_old _ _ _ _ _ _ (by decide +kernel)]; exact fl5_lamps ..,
          by rw [fl6_old _ _ _ _ _ _ (by decide +kernel)]; exact fl5_contacts .., kf.sqt p12 f12.hn, kf.sqt p12 f12.hs, kf.sqt p12 f12.hr, kf.sqt p12 f12.hl, kf.sqt p12 f12.hc, kf.rows p12 f12.rr, kf.rows p12 f12.rl, kf.rows p12 f12.rc⟩
      have lm : (fl6 tn ts tr tl tc tm).lookup ("_movers" : Str) = some (.ref tm) := by rw [fl6_at, if_pos rfl]
      have hm : SqT K (upd H12 p (.ins C dx (fl6 tn ts tr tl tc tm))) tm (b.movers.map V.str) := kf.sqt p12 htm
      -- _check_names, _check_contacts
      refine ⟨_, rfl, p, dx, _, rfl, upd_same, fl6_only _ _ _ _ _ _ _ (by decide +kernel), p, dx, _, b, tn, ts, tr, tl, tc, tm, yr, yl, yc, rfl, upd_same, f13, lm, hm, few, ok, fun H14 s14 => ?_⟩
      have hp14 := s14 _ _ (upd_same (H := H12) (a := p) (o := .ins C dx (fl6 tn ts tr tl tc tm)))
      have f14 := f13.mono s14
      refine ⟨_, rfl, p, dx, _, rfl, hp14, fl6_only _ _ _ _ _ _ _ (by decide +kernel), p, dx, _, b, tn, ts, tr, tl, tc, tm, yr, yl, yc, rfl, hp14, f14, lm, Same.sqt s14 hm, ok.ct, ok.cts, fun H15 s15 => ?_⟩
      exact q H15 ((e12.trans s14).trans s15) ⟨dx, _, tn, ts, tr, tl, tc, tm, yr, yl, yc, s15 _ _ hp14, f14.mono s15, lm, Same.sqt (s14.trans s15) hm, fl6_only _ _ _ _ _ _⟩
/-! ### _law_row -/
def spRow : Sp := fun vs H Q _ => ∃ (c : Int) (m : Nat), vs = [.int c, .int m] ∧ m ≤ 100000 ∧ ∀ H' p (ns : List Int), Same H H' → H p = none → H' p = some (.lst (ns.map V.int)) → ns.length = m → Nums ns → Q (.ref p) H'
theorem scRow : FnScope ["cell", "many", "row", "rest", "k", "mixed"] ["cell", "many"] (defScope sLawRow) := ⟨rfl, rfl, rfl, by decide +kernel, rfl, by decide +kernel, by decide +kernel⟩
theorem ok_row {f : Addr} {fd : FuncData} {k : Nat} (F : Fun K "_law_row" "_law_row" sLawRow f fd) (ma : mg "abs" = none) (mr : mg "range" = none) : FnOk P w K mg base CX0 (k + 1) f fd ["cell", "many"] spRow := by
  refine F.ok scRow (fun vs H Q E h => ?_) (fun cdv A outer s H vs Q E hr h => ?_)
  · obtain ⟨c, m, rfl, _⟩ := h
    rfl
  · obtain ⟨c, m, rfl, hm, q⟩ := h
    refine ⟨_, pss_cons (ps_set (i := 2) scRow.nd rfl (.inl rfl) (pe_lst pa_nil))
      (pss_cons (ps_set (i := 3) scRow.nd rfl (.inl rfl) (pe_callB call_abs (by rfl) ma (by decide +kernel) (pa_cons (pv 0) pa_nil)))
      (pss_cons (ps_for PassesOwn.never rfl (pi_range1 rfl mr (pa_cons (pv 1) pa_nil)) (pg_name (i := 4) scRow.nd rfl (.inl rfl))
        (pss_one (ps_if (pt_cmpR op_ge (pe_callB call_abs (by rfl) ma (by decide +kernel) (pa_cons (pv 0) pa_nil)) (pe_op op_pow pe_int pe_int) (nomark _))
          (pss_cons (ps_expr (pe_bm PySem.F.plainAttrs_list PySem.F.slot_list_append PySem.F.type_list_append mt_append (pv 2) (pa_cons (pe_op op_mod (pv 3) pe_int) pa_nil)))
          (pss_one (ps_set (i := 3) scRow.nd rfl (.inl rfl) (pe_op op_fdiv (pv 3) pe_int))))
          (pss_cons (ps_set (i := 5) scRow.nd rfl (.inl rfl) (pe_op op_mod (pe_op op_add (pe_op op_mul (pv 3) pe_int) (pe_op op_mul (pe_op op_add (pv 4) pe_int) pe_int)) pe_int))
          (pss_cons (ps_set (i := 5) scRow.nd rfl (.inl rfl) (pe_op op_mod (pe_op op_add (pe_op op_mul (pv 5) pe_int) (pe_op op_mul pe_int (pe_op op_add (pv 4) pe_int))) pe_int))
          (pss_one (ps_expr (pe_bm PySem.F.plainAttrs_list PySem.F.slot_list_append PySem.F.type_list_append mt_append (pv 2) (pa_cons (pe_op op_mod (pv 5) pe_int) pa_nil)))))))))
      (pss_one (ps_ret (pv 2))))), ?_⟩
    have e18 : (10 : Int) ^ (18 : Int).toNat = 1000000000000000000 := by decide +kernel
    refine ⟨Nat.zero_le _, fun o no => ?_⟩
    have s1 : Same H (upd H o (.lst [])) := same_upd no
    refine ⟨_, rfl, _, rfl, ?_⟩
    generalize hb : (if c < 0 then -c else c) = ab
    have hb0 : 0 ≤ ab := by
      rw [← hb]
      split <;> omega
    refine ⟨_, rfl, (m : Int), rfl, by omega, by omega, ?_⟩
    refine for_range (lo := 0) (n := (m : Int).toNat) (fun i σ H2 => ∃ (r : Int) (ns : List Int) (z4 z5 : Option V), σ = [some (.int c), some (.int m), some (.ref o), some (.int r), z4, z5] ∧ Same H H2 ∧ H2 o = some (.lst (ns.map V.int)) ∧ ns.length = i ∧ Nums ns ∧ 0 ≤ r ∧ (ab < 1000000000000000000 → r < 1000000000000000000))
      ⟨ab, [], none, none, rfl, s1, upd_same, rfl, (fun n hn => by cases hn), hb0, fun h => h⟩ ?_ ?_
    · rintro i σ H2 hi ⟨r, ns, z4, z5, rfl, sm, ho, hl, hn, hr0, hr1⟩
      refine ⟨_, rfl, _, rfl, ?_⟩
      rw [hb]
      refine ⟨_, _, rfl, rfl, ⟨by decide, by decide, by decide⟩, _, _, rfl, rfl, _, rfl, ?_⟩
      rw [e18]
      refine ite2 (fun hbig => ?_) (fun hsm => ?_)
      · refine ⟨.ref o, rfl, .inl ⟨rfl, _, sq ho⟩, _, rfl, _, _, rfl, rfl, (by show (0 : Int) < 1009; decide), o, _, _, rfl, rfl, ho, ?_, ?_⟩
        · rw [List.length_map]
          exact szlt (by omega)
        · have hbig' : (1000000000000000000 : Int) ≤ ab := of_decide_eq_true hbig
          refine ⟨_, rfl, _, _, rfl, rfl, ⟨by decide, by decide⟩, r / 1009, ns ++ [r % 1009], _, _, rfl, same_mut sm no, ?_, ?_, hn.snoc (by omega) (by omega), by omega, fun z => by omega⟩
          · rw [upd_same, map_snoc]
          · rw [List.length_append, hl]
            rfl
      · have hsm' : ab < 1000000000000000000 := by
          have := of_decide_eq_false (Bool.eq_false_iff.mpr hsm)
          omega
        have hr2 := hr1 hsm'
        have b64 : (2 : Int) ^ 64 = 18446744073709551616 := by decide
        refine ⟨_, rfl, _, _, rfl, rfl, .inl ⟨by omega, by omega⟩, _, rfl, _, _, rfl, rfl, _, _, rfl, rfl, .inr ⟨by decide, by decide⟩, _, _, rfl, rfl, _, _, rfl, rfl, (by show (0 : Int) < 2147483647; decide), ?_⟩
        refine ⟨_, rfl, _, _, rfl, rfl, .inr ⟨by decide, by decide⟩, _, rfl, _, _, rfl, rfl, _, _, rfl, rfl, .inl ⟨by decide, by decide⟩, _, _, rfl, rfl, _, _, rfl, rfl, (by show (0 : Int) < 2147483629; decide), ?_⟩
        refine ⟨.ref o, rfl, .inl ⟨rfl, _, sq ho⟩, _, rfl, _, _, rfl, rfl, (by show (0 : Int) < 1009; decide), o, _, _, rfl, rfl, ho, ?_, ?_⟩
        · rw [List.length_map]
          exact szlt (by omega)
        · refine ⟨r, ns ++ [(((r * 48271 + (0 + (i : Int) + 1) * 69621) % 2147483647 * 16807 + 271 * (0 + (i : Int) + 3)) % 2147483629) % 1009], _, _, rfl, same_mut sm no, ?_, ?_, hn.snoc (Int.emod_nonneg _ (by decide)) (Int.emod_lt_of_pos _ (by decide)), hr0, hr1⟩
          · rw [upd_same, map_snoc]
          · rw [List.length_append, hl]
            rfl
    · rintro σ H2 ⟨r, ns, z4, z5, rfl, sm, ho, hl, hn, hr0, hr1⟩
      exact ⟨.ref o, rfl, q H2 o ns sm no ho (by omega) hn⟩
/-! ### _law_numbers -/
def spNumbers (K : PySem.W.Frag) : Sp := fun vs H Q _ => ∃ (a : Addr) (cs : List Int) (m : Nat), vs = [.ref a, .int m] ∧ SqL K H a (cs.map V.int) ∧ cs.length ≤ 63 ∧ m ≤ 5000 ∧
  ∀ H' p (ns : List Int), Same H H' → H p = none → H' p = some (.lst (ns.map V.int)) → ns.length = m → Nums ns → Q (.ref p) H'
theorem scNumbers : FnScope ["script", "many", "cells", "each", "numbers", "cell", "number"] ["script", "many"] (defScope sLawNumbers) := ⟨rfl, rfl, rfl, by decide +kernel, rfl, by decide +kernel, by decide +kernel⟩
theorem ok_numbers {f fR : Addr} {fd fdR : FuncData} {k : Nat} (F : Fun K "_law_numbers" "_law_numbers" sLawNumbers f fd) (kR : PySem.W.keepIn K (.ref fR) = true) (bR : Binds K fdR ["cell", "many"] []) (gR : mg "_law_row" = some (.ref fR))
    (GR : FnOk P w K mg base CX0 (k + 1) fR fdR ["cell", "many"] spRow) (mx : mg "max" = none) (ml : mg "len" = none) : FnOk P w K mg base CX0 (k + 2) f fd ["script", "many"] (spNumbers K) := by
  refine F.ok scNumbers (fun vs H Q E h => ?_) (fun cdv A outer s H vs Q E hr h => ?_)
  · obtain ⟨a, cs, m, rfl, _⟩ := h
    rfl
  · obtain ⟨a, cs, m, rfl, hS, hlen, hm, q⟩ := h
    refine ⟨_, pss_cons (ps_set (i := 2) scNumbers.nd rfl (.inl rfl) (pe_slice sl_list (pv 0) po_none (po_some pe_int)))
      (pss_cons (ps_set (i := 3) scNumbers.nd rfl (.inl rfl) (pe_op op_add pe_int (pe_op op_fdiv (pv 1) (pe_callB (call_max2 rfl) (by rfl) mx (by decide +kernel) (pa_cons pe_int (pa_cons (pe_callB call_len_seq (by rfl) ml PySem.boot_len (pa_cons (pv 2) pa_nil)) pa_nil))))))
      (pss_cons (ps_set (i := 4) scNumbers.nd rfl (.inl rfl) (pe_lst pa_nil))
      (pss_cons (ps_for PassesOwn.never rfl (pi_list (pv 2)) (pg_name (i := 5) scNumbers.nd rfl (.inl rfl))
        (pss_one (ps_for PassesOwn.never rfl (pi_list (pe_call GR hr (by rfl) gR kR bR .nil pass0 (pa_cons (pv 5) (pa_cons (pv 3) pa_nil)))) (pg_name (i := 6) scNumbers.nd rfl (.inl rfl))
          (pss_one (ps_expr (pe_bm PySem.F.plainAttrs_list PySem.F.slot_list_append PySem.F.type_list_append mt_append (pv 4) (pa_cons (pv 6) pa_nil)))))))
      (pss_cons (ps_while PassesOwn.never (pt_cmpR op_lt (pe_callB call_len_seq (by rfl) ml PySem.boot_len (pa_cons (pv 4) pa_nil)) (pv 1) (nomark _))
          (pss_one (ps_expr (pe_bm PySem.F.plainAttrs_list PySem.F.slot_list_append PySem.F.type_list_append mt_append (pv 4) (pa_cons pe_int pa_nil)))))
      (pss_one (ps_ret (pe_slice sl_list (pv 4) po_none (po_some (pv 1))))))))), ?_⟩
    -- cells = script[:63]
    refine ⟨_, rfl, 63, rfl, a, _, rfl, hS, fun c nc => ?_⟩
    rw [show ((63 : Int)) = ((63 : Nat) : Int) from rfl, cut_list, List.take_of_length_le (by rw [List.length_map]; exact hlen)]
    have s1 : Same H (upd H c (.lst (cs.map V.int))) := same_upd nc
    -- each = 1 + many // max(1, len(cells))
    refine ⟨_, rfl, _, rfl, c, _, rfl, .inl (sq upd_same), _, _, rfl, ?_⟩
    generalize hd : (if ((cs.map V.int).length : Int) > 1 then ((cs.map V.int).length : Int) else 1) = dv
    have hd1 : 1 ≤ dv ∧ dv ≤ 63 := by
      rw [List.length_map] at hd
      rw [← hd]
      split <;> omega
    refine ⟨_, _, rfl, rfl, ⟨by omega, by omega⟩, _, _, rfl, rfl, ?_⟩
    have he : ∃ e : Nat, (1 + (m : Int) / dv) = (e : Int) ∧ e ≤ 5001 := by
      have h0 : 0 ≤ (m : Int) / dv := Int.ediv_nonneg (by omega) (by omega)
      have h1 : (m : Int) / dv ≤ m := Int.ediv_le_self _ (by omega)
      exact ⟨(1 + (m : Int) / dv).toNat, by omega, by omega⟩
    obtain ⟨e, ee, he⟩ := he
    -- numbers = []
    refine ⟨Nat.zero_le _, fun o no => ?_⟩
    have nco : c ≠ o := ne_of_none upd_same no
    have no' : H o = none := s1.free no
    refine ⟨.ref c, rfl, c, rfl, ⟨_, sq (by rw [upd_ne nco]; exact upd_same)⟩, for_list (K := K) (a := c) (xs := cs.map V.int) (fun i σ H2 => ∃ (ns : List Int) (z5 z6 : Option V), σ = [some (.ref a), some (.int m), some (.ref c), some (.int (1 + (m : Int) / dv)), some (.ref o), z5, z6] ∧ Same H H2 ∧ H2 c = some (.lst (cs.map V.int)) ∧ H2 o = some (.lst (ns.map V.int)) ∧ ns.length = i * e ∧ Nums ns)
      ⟨[], none, none, rfl, same_mut s1 no', by rw [upd_ne nco]; exact upd_same, upd_same, by rw [Nat.zero_mul]; rfl, fun n hn => by cases hn⟩ (fun i σ H2 _ ⟨_, _, _, _, _, hc, _⟩ => sq hc) ?_ ?_⟩
    · rintro i y σ H2 hi ⟨ns, z5, z6, rfl, sm, hc, ho, hl, hn⟩
      have hil : i < (cs.map V.int).length := (List.getElem?_eq_some_iff.mp hi).1
      rw [List.length_map] at hil
      obtain ⟨z, rfl⟩ : ∃ z, y = V.int z := by
        rw [List.getElem?_map, List.getElem?_eq_getElem hil] at hi
        exact ⟨_, (Option.some.inj hi).symm⟩
      have hie : i * e ≤ 63 * 5001 := Nat.mul_le_mul (by omega) he
      refine ⟨_, rfl, _, rfl, z, e, congrArg (fun t => [V.int z, V.int t]) ee, by omega, fun H3 r rs s3 nr hr3 hrl hrn => ?_⟩
      have hc3 := s3 _ _ hc
      have ho3 := s3 _ _ ho
      have nro : r ≠ o := fun z => by
        rw [z, ho] at nr
        cases nr
      refine ⟨r, rfl, ⟨_, sq hr3⟩, for_list (K := K) (a := r) (xs := rs.map V.int) (fun j σ H4 => ∃ (z6 : Option V), σ = [some (.ref a), some (.int m), some (.ref c), some (.int (1 + (m : Int) / dv)), some (.ref o), some (.int z), z6] ∧ Same H H4 ∧ H4 c = some (.lst (cs.map V.int)) ∧ H4 r = some (.lst (rs.map V.int)) ∧ H4 o = some (.lst ((ns ++ rs.take j).map V.int)))
        ⟨z6, rfl, sm.trans s3, hc3, hr3, by rw [List.take_zero, List.append_nil]; exact ho3⟩ (fun j σ H4 _ ⟨_, _, _, _, h4, _⟩ => sq h4) ?_ ?_⟩
      · rintro j y σ H4 hj ⟨w6, rfl, s4, hc4, hr4, ho4⟩
        have hjl : j < (rs.map V.int).length := (List.getElem?_eq_some_iff.mp hj).1
        rw [List.length_map] at hjl
        obtain ⟨n, hnj, rfl⟩ : ∃ n, rs[j]? = some n ∧ y = V.int n := by
          rw [List.getElem?_map, List.getElem?_eq_getElem hjl] at hj
          exact ⟨_, List.getElem?_eq_getElem hjl, (Option.some.inj hj).symm⟩
        refine ⟨.ref o, rfl, .inl ⟨rfl, _, sq ho4⟩, _, rfl, o, _, _, rfl, rfl, ho4, ?_, ?_⟩
        · rw [List.length_map, List.length_append, List.length_take]
          exact szlt (by omega)
        · refine ⟨_, rfl, same_mut s4 no', by rw [upd_ne nco]; exact hc4, by rw [upd_ne nro]; exact hr4, ?_⟩
          rw [upd_same, ← map_snoc, List.append_assoc, List.take_add_one, hnj]
          rfl
      · rintro σ H4 ⟨w6, rfl, s4, hc4, hr4, ho4⟩
        rw [List.length_map, List.take_length] at ho4
        refine ⟨ns ++ rs, _, _, rfl, s4, hc4, ho4, ?_, fun n hn2 => ?_⟩
        · rw [List.length_append, hl, hrl, Nat.succ_mul]
        · rcases List.mem_append.mp hn2 with h | h
          · exact hn n h
          · exact hrn n h
    · rintro σ H2 ⟨ns, z5, z6, rfl, sm, hc, ho, hl, hn⟩
      rw [List.length_map] at hl
      have hle : ns.length ≤ 63 * 5001 := by
        rw [hl]
        exact Nat.mul_le_mul hlen he
      -- while len(numbers) < many
      refine while_by (fun σ H3 => ∃ ns' : List Int, σ = [some (.ref a), some (.int m), some (.ref c), some (.int (1 + (m : Int) / dv)), some (.ref o), z5, z6] ∧ Same H H3 ∧ H3 o = some (.lst (ns'.map V.int)) ∧ ns'.length ≤ 400000 ∧ Nums ns')
        (fun σ H3 => match H3 o with | some (.lst xs) => m - xs.length | _ => 0) ⟨ns, rfl, sm, ho, by omega, hn⟩ ?_ ?_
      · rintro σ H3 ⟨ns', rfl, s3, ho3, hl3, hn3⟩
        refine ⟨.ref o, rfl, o, _, rfl, .inl (sq ho3), _, rfl, _, _, rfl, rfl, _, rfl, ?_⟩
        rw [List.length_map]
        refine ite2 (fun hlt => ?_) (fun hge => ?_)
        · have hlt' : (ns'.length : Int) < m := of_decide_eq_true hlt
          refine ⟨.ref o, rfl, .inl ⟨rfl, _, sq ho3⟩, o, _, _, rfl, rfl, ho3, by rw [List.length_map]; exact szlt (by omega), ?_⟩
          refine ⟨⟨ns' ++ [0], rfl, same_mut s3 no', by rw [upd_same, map_snoc], by rw [List.length_append]; show ns'.length + 1 ≤ 400000; omega, hn3.snoc (by decide) (by decide)⟩, ?_⟩
          rw [upd_same, ho3]
          show m - (ns'.map V.int ++ [V.int 0]).length < m - (ns'.map V.int).length
          rw [List.length_append, List.length_map]
          show m - (ns'.length + 1) < m - ns'.length
          omega
        · have hge' : ¬ (ns'.length : Int) < m := of_decide_eq_false (Bool.eq_false_iff.mpr hge)
          refine ⟨_, rfl, _, rfl, (m : Int), rfl, o, _, rfl, sq ho3, fun p np => ?_⟩
          rw [cut_list, ← List.map_take]
          refine q _ p (ns'.take m) (same_mut s3 (s3.free np)) (s3.free np) upd_same (by rw [List.length_take]; omega) fun n h => hn3 n (List.mem_of_mem_take h)
      · rintro σ H Q Q' hq ⟨v, hv, p, ys, e0, hs, v1, hv1, i, j, e1, e2, k, e3, r⟩
        exact ⟨v, hv, p, ys, e0, hs, v1, hv1, i, j, e1, e2, k, e3, hq _ _ r⟩
/-! ### _law_names: names that differ in one place -/
def getI (ns : List Int) (i : Nat) : Int := ns.getD i 0
def chK (i : Int) : Nat := alph.getD i.toNat 0
theorem at_chK (i : Int) (h0 : 0 ≤ i) (h1 : i < 36) : chK i ∈ alph ∧ atI ("abcdefghijklmnopqrstuvwxyz0123456789" : Str).cps.toList i = some (chK i) := by
  have hl : i.toNat < alph.length := by rw [alph_len]; omega
  have e : chK i = alph[i.toNat] := by
    unfold chK
    rw [List.getD_eq_getElem?_getD, List.getElem?_eq_getElem hl]
    rfl
  have e2 := atI_nat (xs := alph) (j := i.toNat) (List.getElem?_eq_getElem hl)
  rw [Int.toNat_of_nonneg h0] at e2
  exact ⟨by rw [e]; exact List.getElem_mem hl, by rw [e]; exact e2⟩
theorem alph_nodup : alph.Nodup := by decide +kernel
theorem chK_inj {i j : Int} (hi : 0 ≤ i) (hi2 : i < 36) (hj : 0 ≤ j) (hj2 : j < 36) (e : chK i = chK j) : i = j := by
  have li : i.toNat < alph.length := by rw [alph_len]; omega
  have lj : j.toNat < alph.length := by rw [alph_len]; omega
  unfold chK at e
  rw [List.getD_eq_getElem?_getD, List.getD_eq_getElem?_getD, List.getElem?_eq_getElem li, List.getElem?_eq_getElem lj] at e
  have := (List.getElem_inj alph_nodup).mp (show alph[i.toNat] = alph[j.toNat] from e)
  omega
def one (c : Nat) : Str := ⟨#[c]⟩
theorem one_al2 {c : Nat} (h : c ∈ alph) : Al (one c) := fun d hd => by
  have : d = c := by simpa [one] using hd
  rw [this]
  exact h
/-- the part that the names of a call share, as its loop grows it -/
def preF (ns : List Int) (at_ : Nat) : Nat → Str
  | 0 => ""
  | k + 1 => preF ns at_ k ++ one (chK ((getI ns (at_ + 1) + (k : Int) * getI ns (at_ + 2)) % 36))
def preN (ns : List Int) (at_ : Nat) : Nat := (getI ns at_ % 12).toNat
def placeN (ns : List Int) (at_ : Nat) : Int := getI ns (at_ + 3) % (((preF ns at_ (preN ns at_)).length : Int) + 1)
def shiftN (ns : List Int) (at_ : Nat) : Int := getI ns (at_ + 4) % 36
def nameK (ns : List Int) (at_ k : Nat) : Str := cutS (preF ns at_ (preN ns at_)) none (some (placeN ns at_)) ++ one (chK ((shiftN ns at_ + (k : Int)) % 36)) ++ cutS (preF ns at_ (preN ns at_)) (some (placeN ns at_)) none
def namesF (ns : List Int) (at_ m : Nat) : List Str := (List.range m).map (nameK ns at_)
theorem preF_ok (ns : List Int) (at_ : Nat) : ∀ k, (preF ns at_ k).length = k ∧ Al (preF ns at_ k)
  | 0 => ⟨(by decide +kernel : (("" : Str)).length = 0), fun c hc => by cases hc⟩
  | k + 1 => by
    have ih := preF_ok ns at_ k
    have hc := (at_chK ((getI ns (at_ + 1) + (k : Int) * getI ns (at_ + 2)) % 36) (Int.emod_nonneg _ (by decide)) (Int.emod_lt_of_pos _ (by decide))).1
    refine ⟨?_, ih.2.app (one_al2 hc)⟩
    show (preF ns at_ k ++ one _).length = k + 1
    rw [app_len, ih.1]
    rfl
theorem preN_le (ns : List Int) (at_ : Nat) : preN ns at_ ≤ 11 := by
  unfold preN
  have := Int.emod_lt_of_pos (getI ns at_) (show (0 : Int) < 12 by decide)
  omega
theorem placeN_ok (ns : List Int) (at_ : Nat) : 0 ≤ placeN ns at_ := Int.emod_nonneg _ (by omega)
theorem nameK_ok (ns : List Int) (at_ k : Nat) : Nm (nameK ns at_ k) := by
  obtain ⟨p, hp⟩ : ∃ p : Nat, placeN ns at_ = (p : Int) := ⟨_, (Int.toNat_of_nonneg (placeN_ok ns at_)).symm⟩
  have pl := (preF_ok ns at_ (preN ns at_)).1
  have pa := (preF_ok ns at_ (preN ns at_)).2
  have pn := preN_le ns at_
  have hc := (at_chK ((shiftN ns at_ + (k : Int)) % 36) (Int.emod_nonneg _ (by decide)) (Int.emod_lt_of_pos _ (by decide))).1
  unfold nameK
  rw [hp]
  generalize preF ns at_ (preN ns at_) = pre at pl pa
  have h1 := cut_take pre p
  have h2 := cut_drop pre p
  have l : (List.take p pre.cps.toList ++ List.drop p pre.cps.toList).length = pre.length := by rw [List.take_append_drop, len_tl]
  rw [List.length_append] at l
  refine ⟨?_, ?_, ?_⟩
  · rw [app_len, app_len]
    show 1 ≤ _ + 1 + _
    omega
  · rw [app_len, app_len, len_tl (cutS pre none _), len_tl (cutS pre _ none), h1, h2]
    show _ + 1 + _ ≤ 12
    omega
  · refine Al.app (Al.app (fun d hd => ?_) (one_al2 hc)) (fun d hd => ?_)
    · rw [h1] at hd
      exact pa d (List.mem_of_mem_take hd)
    · rw [h2] at hd
      exact pa d (List.mem_of_mem_drop hd)
theorem nameK_inj (ns : List Int) (at_ i j : Nat) (hi : i < 36) (hj : j < 36) (e : nameK ns at_ i = nameK ns at_ j) : i = j := by
  have e2 := congrArg (fun z : Str => z.cps.toList) e
  unfold nameK at e2
  rw [app_tl, app_tl, app_tl, app_tl] at e2
  have e3 := List.append_cancel_left (List.append_cancel_right e2)
  have e4 : chK ((shiftN ns at_ + (i : Int)) % 36) = chK ((shiftN ns at_ + (j : Int)) % 36) := by
    have : ([chK ((shiftN ns at_ + (i : Int)) % 36)] : List Nat) = [chK ((shiftN ns at_ + (j : Int)) % 36)] := e3
    exact List.head_eq_of_cons_eq this
  have e5 := chK_inj (Int.emod_nonneg _ (by decide)) (Int.emod_lt_of_pos _ (by decide)) (Int.emod_nonneg _ (by decide)) (Int.emod_lt_of_pos _ (by decide)) e4
  omega
theorem namesF_len (ns : List Int) (at_ m : Nat) : (namesF ns at_ m).length = m := by
  unfold namesF
  rw [List.length_map, List.length_range]
theorem namesF_nm (ns : List Int) (at_ m : Nat) : ∀ z ∈ namesF ns at_ m, Nm z := fun z hz => by
  obtain ⟨k, _, rfl⟩ := List.mem_map.mp hz
  exact nameK_ok ns at_ k
theorem nodup_map {α β : Type} (f : α → β) : ∀ xs : List α, (∀ x ∈ xs, ∀ y ∈ xs, f x = f y → x = y) → xs.Nodup → (xs.map f).Nodup
  | [], _, _ => List.nodup_nil
  | x :: xs, h, nd => by
    rw [List.nodup_cons] at nd
    rw [List.map_cons, List.nodup_cons]
    refine ⟨fun hm => ?_, nodup_map f xs (fun a ha b hb => h a (List.mem_cons_of_mem _ ha) b (List.mem_cons_of_mem _ hb)) nd.2⟩
    obtain ⟨y, hy, e⟩ := List.mem_map.mp hm
    have := h y (List.mem_cons_of_mem _ hy) x List.mem_cons_self e
    exact nd.1 (this ▸ hy)
theorem namesF_nodup (ns : List Int) (at_ m : Nat) (hm : m ≤ 36) : (namesF ns at_ m).Nodup :=
  nodup_map _ _ (fun i hi j hj e => nameK_inj ns at_ i j (by have := List.mem_range.mp hi; omega) (by have := List.mem_range.mp hj; omega) e) List.nodup_range
theorem namesF_succ (ns : List Int) (at_ m : Nat) : namesF ns at_ (m + 1) = namesF ns at_ m ++ [nameK ns at_ m] := by
  unfold namesF
  rw [List.range_succ, List.map_append]
  rfl
theorem at_get {ns : List Int} (hn : Nums ns) {i : Nat} (h : i < ns.length) : 0 ≤ getI ns i ∧ getI ns i < 1009 ∧ ∀ z : Int, z = (i : Int) → atI (ns.map V.int) z = some (.int (getI ns i)) := by
  have e : getI ns i = ns[i] := by
    unfold getI
    rw [List.getD_eq_getElem?_getD, List.getElem?_eq_getElem h]
    rfl
  have hm := hn _ (List.getElem_mem h)
  refine ⟨by rw [e]; exact hm.1, by rw [e]; exact hm.2, fun z hz => ?_⟩
  rw [hz, e]
  exact atI_nat (by rw [List.getElem?_map, List.getElem?_eq_getElem h]; rfl)
def spNames (K : PySem.W.Frag) : Sp := fun vs H Q _ => ∃ (a : Addr) (ns : List Int) (at_ m : Nat), vs = [.ref a, .int at_, .int m] ∧ SqL K H a (ns.map V.int) ∧ Nums ns ∧ at_ + 5 ≤ ns.length ∧ at_ ≤ 1000 ∧ m ≤ 1000 ∧
  ∀ H' p, Same H H' → H p = none → H' p = some (.lst ((namesF ns at_ m).map V.str)) → Q (.ref p) H'
theorem scNames : FnScope ["numbers", "at", "many", "chars", "prefix", "k", "place", "shift", "names"] ["numbers", "at", "many"] (defScope sLawNames) := ⟨rfl, rfl, rfl, by decide +kernel, rfl, by decide +kernel, by decide +kernel⟩
theorem ok_names {f : Addr} {fd : FuncData} {k : Nat} (F : Fun K "_law_names" "_law_names" sLawNames f fd) (mi : mg "int" = none) (mr : mg "range" = none) (ml : mg "len" = none) : FnOk P w K mg base CX0 (k + 1) f fd ["numbers", "at", "many"] (spNames K) := by
  refine F.ok scNames (fun vs H Q E h => ?_) (fun cdv A outer s H vs Q E hr h => ?_)
  · obtain ⟨a, ns, at_, m, rfl, _⟩ := h
    rfl
  · obtain ⟨a, ns, at_, m, rfl, hS, hn, hat, ha1, hm, q⟩ := h
    refine ⟨_, pss_cons (ps_set (i := 3) scNames.nd rfl (.inl rfl) pe_str)
      (pss_cons (ps_set (i := 4) scNames.nd rfl (.inl rfl) pe_str)
      (pss_cons (ps_for PassesOwn.never rfl (pi_range1 rfl mr (pa_cons (pe_op op_mod (pe_callTy call_int1 (by rfl) mi (by decide +kernel) (pa_cons (pe_ix ix_list (pv 0) (pv 1) (fun _ _ => rfl)) pa_nil)) pe_int) pa_nil)) (pg_name (i := 5) scNames.nd rfl (.inl rfl))
        (pss_one (ps_set (i := 4) scNames.nd rfl (.inl rfl) (pe_op op_add_str (pv 4) (pe_ix ix_str (pv 3) (pe_op op_mod (pe_op op_add (pe_ix ix_list (pv 0) (pe_op op_add (pv 1) pe_int) (fun _ _ => rfl)) (pe_op op_mul (pv 5) (pe_ix ix_list (pv 0) (pe_op op_add (pv 1) pe_int) (fun _ _ => rfl)))) pe_int) (fun _ _ => rfl))))))
      (pss_cons (ps_set (i := 6) scNames.nd rfl (.inl rfl) (pe_op op_mod (pe_callTy call_int1 (by rfl) mi (by decide +kernel) (pa_cons (pe_ix ix_list (pv 0) (pe_op op_add (pv 1) pe_int) (fun _ _ => rfl)) pa_nil)) (pe_op op_add (pe_callB call_len_str (by rfl) ml PySem.boot_len (pa_cons (pv 4) pa_nil)) pe_int)))
      (pss_cons (ps_set (i := 7) scNames.nd rfl (.inl rfl) (pe_op op_mod (pe_callTy call_int1 (by rfl) mi (by decide +kernel) (pa_cons (pe_ix ix_list (pv 0) (pe_op op_add (pv 1) pe_int) (fun _ _ => rfl)) pa_nil)) pe_int))
      (pss_cons (ps_set (i := 8) scNames.nd rfl (.inl rfl) (pe_lst pa_nil))
      (pss_cons (ps_for PassesOwn.never rfl (pi_range1 rfl mr (pa_cons (pv 2) pa_nil)) (pg_name (i := 5) scNames.nd rfl (.inl rfl))
        (pss_one (ps_expr (pe_bm PySem.F.plainAttrs_list PySem.F.slot_list_append PySem.F.type_list_append mt_append (pv 8) (pa_cons (pe_op op_add_str (pe_op op_add_str (pe_slice sl_str (pv 4) po_none (po_some (pv 6))) (pe_ix ix_str (pv 3) (pe_op op_mod (pe_op op_add (pv 7) (pv 5)) pe_int) (fun _ _ => rfl))) (pe_slice sl_str (pv 4) (po_some (pv 6)) po_none)) pa_nil)))))
      (pss_one (ps_ret (pv 8))))))))), ?_⟩
    obtain ⟨a0, a1, ga⟩ := at_get hn (show at_ < ns.length by omega)
    obtain ⟨b0, b1, gb⟩ := at_get hn (show at_ + 1 < ns.length by omega)
    obtain ⟨c0, c1, gc⟩ := at_get hn (show at_ + 2 < ns.length by omega)
    obtain ⟨d0, d1, gd⟩ := at_get hn (show at_ + 3 < ns.length by omega)
    obtain ⟨f0, f1, gf⟩ := at_get hn (show at_ + 4 < ns.length by omega)
    have pn := preN_le ns at_
    have pok := preF_ok ns at_
    refine ⟨_, rfl, _, rfl, a, _, _, _, rfl, rfl, hS, ga _ rfl, .inl ⟨_, rfl, _, _, rfl, rfl, (by show (0 : Int) < 12; decide), getI ns at_ % 12, rfl, by omega, by omega, ?_⟩⟩
    refine for_range (lo := 0) (n := (getI ns at_ % 12).toNat) (fun i σ H2 => ∃ z5 : Option V, σ = [some (.ref a), some (.int at_), some (.int m), some (.str "abcdefghijklmnopqrstuvwxyz0123456789"), some (.str (preF ns at_ i)), z5, none, none, none] ∧ H2 = H) ⟨none, rfl, rfl⟩ ?_ ?_
    · rintro i σ H2 hi ⟨z5, rfl, rfl⟩
      have hi2 : i ≤ 11 := by omega
      obtain ⟨hc, e⟩ := at_chK ((getI ns (at_ + 1) + (0 + (i : Int)) * getI ns (at_ + 2)) % 36) (Int.emod_nonneg _ (by decide)) (Int.emod_lt_of_pos _ (by decide))
      have i64 : (-(2 ^ 64) : Int) < 0 + (i : Int) ∧ 0 + (i : Int) < 2 ^ 64 := by
        have b64 : (2 : Int) ^ 64 = 18446744073709551616 := by decide
        omega
      refine ⟨_, rfl, _, rfl, _, rfl, _, rfl, _, _, rfl, rfl, a, _, _, _, rfl, rfl, hS, gb _ (by omega), _, rfl, _, rfl, _, rfl, _, _, rfl, rfl, a, _, _, _, rfl, rfl, hS, gc _ (by omega), _, _, rfl, rfl, .inl i64, _, _, rfl, rfl, _, _, rfl, rfl, (by show (0 : Int) < 36; decide), _, _, _, rfl, rfl, by decide, e, _, _, rfl, rfl, szl (by rw [(pok i).1]; show i + 1 ≤ 1000000; omega), ?_⟩
      refine ⟨some (.int (0 + (i : Int))), ?_, rfl⟩
      show _ = [_, _, _, _, some (V.str (preF ns at_ i ++ one (chK ((getI ns (at_ + 1) + (i : Int) * getI ns (at_ + 2)) % 36)))), _, _, _, _]
      rw [show (0 + (i : Int)) = (i : Int) by omega]
      rfl
    · rintro σ H2 ⟨z5, rfl, rfl⟩
      have pl : (preF ns at_ (preN ns at_)).length = preN ns at_ := (pok _).1
      have pl0 : (preF ns at_ ((getI ns at_ % 12).toNat)) = preF ns at_ (preN ns at_) := rfl
      rw [pl0]
      refine ⟨_, rfl, _, rfl, _, _, rfl, rfl, a, _, _, _, rfl, rfl, hS, gd _ (by omega), .inl ⟨_, rfl, _, rfl, _, rfl, szl (by omega), _, _, rfl, rfl, _, _, rfl, rfl, (by omega), ?_⟩⟩
      refine ⟨_, rfl, _, rfl, _, _, rfl, rfl, a, _, _, _, rfl, rfl, hS, gf _ (by omega), .inl ⟨_, rfl, _, _, rfl, rfl, (by show (0 : Int) < 36; decide), ?_⟩⟩
      refine ⟨Nat.zero_le _, fun o no => ?_⟩
      refine ⟨_, rfl, (m : Int), rfl, by omega, by omega, ?_⟩
      refine for_range (lo := 0) (n := (m : Int).toNat) (fun i σ H3 => ∃ z5 : Option V, σ = [some (.ref a), some (.int at_), some (.int m), some (.str "abcdefghijklmnopqrstuvwxyz0123456789"), some (.str (preF ns at_ (preN ns at_))), z5, some (.int (placeN ns at_)), some (.int (shiftN ns at_)), some (.ref o)] ∧ Same H2 H3 ∧ H3 o = some (.lst ((namesF ns at_ i).map V.str)))
        ⟨z5, rfl, same_upd no, upd_same⟩ ?_ ?_
      · rintro i σ H3 hi ⟨z5, rfl, sm, ho⟩
        obtain ⟨hc, e⟩ := at_chK ((shiftN ns at_ + (0 + (i : Int))) % 36) (Int.emod_nonneg _ (by decide)) (Int.emod_lt_of_pos _ (by decide))
        have lt := cutS_length (preF ns at_ (preN ns at_)) none (some (placeN ns at_))
        have ld := cutS_length (preF ns at_ (preN ns at_)) (some (placeN ns at_)) none
        refine ⟨.ref o, rfl, .inl ⟨rfl, _, sq ho⟩, _, rfl, _, rfl, _, rfl, _, rfl, szl (by omega), _, rfl, _, rfl, _, rfl, _, _, rfl, rfl, _, _, rfl, rfl, (by show (0 : Int) < 36; decide), _, _, _, rfl, rfl, by decide, e, _, _, rfl, rfl, szl (by show _ + 1 ≤ 1000000; omega), _, rfl, _, rfl, _, rfl, _, rfl, szl (by omega), _, _, rfl, rfl, szl (by rw [app_len]; show _ + 1 + _ ≤ 1000000; omega), o, _, _, rfl, rfl, ho, szlt (by rw [List.length_map, namesF_len]; omega), ?_⟩
        refine ⟨_, rfl, same_mut sm no, ?_⟩
        rw [upd_same, namesF_succ, map_snoc]
        show some (HO.lst (_ ++ [V.str (_ ++ _ ++ _)])) = _
        rw [show (0 + (i : Int)) = (i : Int) by omega]
        rfl
      · rintro σ H3 ⟨z5, rfl, sm, ho⟩
        exact ⟨_, rfl, q H3 o sm no (by rw [show (m : Int).toNat = m by omega] at ho; exact ho)⟩
/-! ### _law_count, _law_two -/
def spCount : Sp := fun vs H Q _ => ∃ (x : Int) (lo hi : Nat), vs = [.int x, .int lo, .int hi] ∧ 0 ≤ x ∧ lo ≤ hi ∧ hi ≤ 1000 ∧ ∀ r : Nat, lo ≤ r → r ≤ hi → Q (.int r) H
theorem scCount : FnScope ["number", "least", "most"] ["number", "least", "most"] (defScope sLawCount) := ⟨rfl, rfl, rfl, by decide +kernel, rfl, by decide +kernel, by decide +kernel⟩
theorem ok_count {f : Addr} {fd : FuncData} {k : Nat} (F : Fun K "_law_count" "_law_count" sLawCount f fd) (mi : mg "int" = none) (mn : mg "min" = none) : FnOk P w K mg base CX0 (k + 1) f fd ["number", "least", "most"] spCount := by
  refine F.ok scCount (fun vs H Q E h => ?_) (fun cdv A outer s H vs Q E hr h => ?_)
  · obtain ⟨x, lo, hi, rfl, _⟩ := h
    rfl
  · obtain ⟨x, lo, hi, rfl, hx, hlh, hh, q⟩ := h
    refine ⟨_, pss_cons (ps_if (pt_cmpR op_eq (pe_op op_mod (pe_callTy call_int1 (by rfl) mi (by decide +kernel) (pa_cons (pv 0) pa_nil)) pe_int) pe_int (nomark _)) (pss_one (ps_ret (pv 1))) pss_nil)
      (pss_cons (ps_if (pt_cmpR op_eq (pe_op op_mod (pe_callTy call_int1 (by rfl) mi (by decide +kernel) (pa_cons (pv 0) pa_nil)) pe_int) pe_int (nomark _)) (pss_one (ps_ret (pv 2))) pss_nil)
      (pss_one (ps_ret (pe_op op_add (pv 1) (pe_op op_mod (pe_op op_fdiv (pv 0) pe_int) (pe_op op_add (pe_op op_sub (pe_callB (call_min2 rfl) (by rfl) mn (by decide +kernel) (pa_cons (pv 2) (pa_cons (pe_op op_add (pv 1) pe_int) pa_nil))) (pv 1)) pe_int)))))), ?_⟩
    refine ⟨_, rfl, .inl ⟨_, rfl, _, _, rfl, rfl, (by show (0 : Int) < 6; decide), rfl, _, rfl, ?_⟩⟩
    refine ite2 (fun _ => ?_) (fun _ => ?_)
    · exact ⟨_, rfl, q lo (Nat.le_refl _) hlh⟩
    · refine ⟨_, rfl, .inl ⟨_, rfl, _, _, rfl, rfl, (by show (0 : Int) < 6; decide), rfl, _, rfl, ?_⟩⟩
      refine ite2 (fun _ => ?_) (fun _ => ?_)
      · exact ⟨_, rfl, q hi hlh (Nat.le_refl _)⟩
      · refine ⟨_, rfl, _, rfl, _, _, rfl, rfl, ⟨by decide, by decide⟩, _, rfl, _, rfl, _, _, rfl, rfl, _, _, rfl, ?_⟩
        generalize hd : (if (lo : Int) + 4 < (hi : Int) then (lo : Int) + 4 else (hi : Int)) = dv
        have hd1 : (lo : Int) ≤ dv ∧ dv ≤ hi := by
          rw [← hd]
          split <;> omega
        have hm0 := Int.emod_nonneg (x / 6) (show dv - lo + 1 ≠ 0 by omega)
        have hm1 := Int.emod_lt_of_pos (x / 6) (show 0 < dv - lo + 1 by omega)
        refine ⟨_, rfl, _, _, rfl, rfl, _, _, rfl, rfl, _, _, rfl, rfl, (by show (0 : Int) < dv - lo + 1; omega), _, _, rfl, rfl, ?_⟩
        have e : (lo : Int) + x / 6 % (dv - lo + 1) = ((((lo : Int) + x / 6 % (dv - lo + 1)).toNat : Nat) : Int) := by omega
        show Q (V.int ((lo : Int) + x / 6 % (dv - lo + 1))) H
        rw [e]
        exact q _ (by omega) (by omega)
theorem two_ne {n f d : Int} (hn : 2 ≤ n) (f0 : 0 ≤ f) (f1 : f < n) (d0 : 0 ≤ d) (d1 : d < n - 1) : (f + 1 + d) % n ≠ f := by
  by_cases h : f + 1 + d < n
  · rw [Int.emod_eq_of_lt (by omega) h]
    omega
  · have e : f + 1 + d = (f + 1 + d - n) + n := by omega
    rw [e, Int.add_emod_right, Int.emod_eq_of_lt (by omega) (by omega)]
    omega
def spTwo (K : PySem.W.Frag) : Sp := fun vs H Q _ => ∃ (x y : Int) (a : Addr) (zs : List Str), vs = [.int x, .int y, .ref a] ∧ SqL K H a (zs.map V.str) ∧ 0 ≤ x ∧ 0 ≤ y ∧ 2 ≤ zs.length ∧ zs.length ≤ 1000 ∧ zs.Nodup ∧
  ∀ H' t (u v : Str), Same H H' → H t = none → H' t = some (.tup [.str u, .str v]) → u ∈ zs → v ∈ zs → u ≠ v → Q (.ref t) H'
theorem scTwo : FnScope ["one", "other", "nodes", "first", "second"] ["one", "other", "nodes"] (defScope sLawTwo) := ⟨rfl, rfl, rfl, by decide +kernel, rfl, by decide +kernel, by decide +kernel⟩
theorem at_str {zs : List Str} (i : Int) (h0 : 0 ≤ i) (h1 : i < (zs.length : Int)) : ∃ z, z ∈ zs ∧ zs[i.toNat]? = some z ∧ atI (zs.map V.str) i = some (.str z) := by
  have hl : i.toNat < zs.length := by omega
  refine ⟨zs[i.toNat], List.getElem_mem hl, List.getElem?_eq_getElem hl, ?_⟩
  have e := atI_nat (xs := zs.map V.str) (j := i.toNat) (by rw [List.getElem?_map, List.getElem?_eq_getElem hl]; rfl)
  rwa [Int.toNat_of_nonneg h0] at e
theorem ok_two {f : Addr} {fd : FuncData} {k : Nat} (F : Fun K "_law_two" "_law_two" sLawTwo f fd) (mi : mg "int" = none) (ml : mg "len" = none) : FnOk P w K mg base CX0 (k + 1) f fd ["one", "other", "nodes"] (spTwo K) := by
  refine F.ok scTwo (fun vs H Q E h => ?_) (fun cdv A outer s H vs Q E hr h => ?_)
  · obtain ⟨x, y, a, zs, rfl, _⟩ := h
    rfl
  · obtain ⟨x, y, a, zs, rfl, hS, hx, hy, h2, h3, nd, q⟩ := h
    refine ⟨_, pss_cons (ps_set (i := 3) scTwo.nd rfl (.inl rfl) (pe_op op_mod (pe_callTy call_int1 (by rfl) mi (by decide +kernel) (pa_cons (pv 0) pa_nil)) (pe_callB call_len_seq (by rfl) ml PySem.boot_len (pa_cons (pv 2) pa_nil))))
      (pss_cons (ps_set (i := 4) scTwo.nd rfl (.inl rfl) (pe_op op_mod (pe_op op_add (pe_op op_add (pv 3) pe_int) (pe_op op_mod (pe_callTy call_int1 (by rfl) mi (by decide +kernel) (pa_cons (pv 1) pa_nil)) (pe_op op_sub (pe_callB call_len_seq (by rfl) ml PySem.boot_len (pa_cons (pv 2) pa_nil)) pe_int))) (pe_callB call_len_seq (by rfl) ml PySem.boot_len (pa_cons (pv 2) pa_nil))))
      (pss_one (ps_ret (pe_tup (pa_cons (pe_ix ix_list (pv 2) (pv 3) (fun _ _ => rfl)) (pa_cons (pe_ix ix_list (pv 2) (pv 4) (fun _ _ => rfl)) pa_nil)))))), ?_⟩
    have hL : ((zs.map V.str).length : Int) = (zs.length : Int) := by rw [List.length_map]
    refine ⟨_, rfl, .inl ⟨_, rfl, _, rfl, a, _, rfl, .inl hS, _, _, rfl, rfl, (by rw [hL]; omega), ?_⟩⟩
    rw [hL]
    have f0 := Int.emod_nonneg x (show (zs.length : Int) ≠ 0 by omega)
    have f1 := Int.emod_lt_of_pos x (show 0 < (zs.length : Int) by omega)
    have d0 := Int.emod_nonneg y (show (zs.length : Int) - 1 ≠ 0 by omega)
    have d1 := Int.emod_lt_of_pos y (show 0 < (zs.length : Int) - 1 by omega)
    have g0 := Int.emod_nonneg (x % (zs.length : Int) + 1 + y % ((zs.length : Int) - 1)) (show (zs.length : Int) ≠ 0 by omega)
    have g1 := Int.emod_lt_of_pos (x % (zs.length : Int) + 1 + y % ((zs.length : Int) - 1)) (show 0 < (zs.length : Int) by omega)
    have hne := two_ne (show (2 : Int) ≤ zs.length by omega) f0 f1 d0 d1
    refine ⟨_, rfl, _, _, rfl, rfl, _, rfl, .inl ⟨_, rfl, _, rfl, a, _, rfl, .inl hS, _, _, rfl, rfl, _, _, rfl, rfl, (by rw [hL]; omega), _, _, rfl, rfl, _, rfl, a, _, rfl, .inl hS, _, _, rfl, rfl, (by rw [hL]; omega), ?_⟩⟩
    rw [hL]
    obtain ⟨u, hu, iu, eu⟩ := at_str (zs := zs) _ f0 f1
    obtain ⟨v, hv, iv, ev⟩ := at_str (zs := zs) _ g0 g1
    refine ⟨_, rfl, _, rfl, a, _, _, _, rfl, rfl, hS, eu, _, rfl, _, rfl, a, _, _, _, rfl, rfl, hS, ev, by show 2 ≤ sizeLine; decide, fun t nt => ?_⟩
    refine q _ t u v (same_upd nt) nt upd_same hu hv fun e => ?_
    subst e
    have := nd_ix nd iu iv
    omega
/-! ### _law_contact, _law_loads -/
def spContact (K : PySem.W.Frag) : Sp := fun vs H Q _ => ∃ (a nl ml : Addr) (ns : List Int) (at_ : Nat) (zs ms : List Str), vs = [.ref a, .int at_, .ref nl, .ref ml] ∧ SqL K H a (ns.map V.int) ∧ Nums ns ∧ at_ + 5 ≤ ns.length ∧
  SqL K H nl (zs.map V.str) ∧ 2 ≤ zs.length ∧ zs.length ≤ 1000 ∧ zs.Nodup ∧ SqL K H ml (ms.map V.str) ∧ ms.length ≤ 1000 ∧
  ∀ H' t (c : Ct), Same H H' → H t = none → H' t = some (.tup c.row) → ctB zs ms c = true → Q (.ref t) H'
theorem scContact : FnScope ["numbers", "at", "nodes", "movers", "ends", "way", "choice"] ["numbers", "at", "nodes", "movers"] (defScope sLawContact) := ⟨rfl, rfl, rfl, by decide +kernel, rfl, by decide +kernel, by decide +kernel⟩
theorem pick2 (s t : Str) (i : Int) (h0 : 0 ≤ i) : ∃ z, z ∈ [s, t] ∧ atI ([.str s, .str t] : List V) (i % 2) = some (.str z) := by
  have a0 := Int.emod_nonneg i (show (2 : Int) ≠ 0 by decide)
  have a1 := Int.emod_lt_of_pos i (show (0 : Int) < 2 by decide)
  obtain ⟨z, hz, _, e⟩ := at_str (zs := [s, t]) (i % 2) a0 a1
  exact ⟨z, hz, e⟩
theorem ctB_mk {zs ms : List Str} {c : Ct} (h1 : c.one ∈ zs) (h2 : c.oth ∈ zs) (h3 : c.one ≠ c.oth) (hw : c.way ∈ [bothS, forwardS]) (hm : match c.mv with | none => c.whn = makeS | some m => m ∈ ms ∧ c.whn ∈ [makeS, breakS]) : ctB zs ms c = true := by
  unfold ctB
  rw [decide_eq_true h1, decide_eq_true h2, decide_eq_false h3, decide_eq_true hw]
  cases e : c.mv with
  | none =>
    rw [e] at hm
    dsimp only at hm ⊢
    rw [decide_eq_true hm]
    rfl
  | some m =>
    rw [e] at hm
    dsimp only at hm ⊢
    rw [decide_eq_true hm.1, decide_eq_true hm.2]
    rfl
theorem ok_contact {f fT : Addr} {fd fdT : FuncData} {k : Nat} (F : Fun K "_law_contact" "_law_contact" sLawContact f fd) (FT : Fun K "_law_two" "_law_two" sLawTwo fT fdT) (bT : Binds K fdT ["one", "other", "nodes"] []) (gT : mg "_law_two" = some (.ref fT))
    (mi : mg "int" = none) (ml : mg "len" = none) : FnOk P w K mg base CX0 (k + 2) f fd ["numbers", "at", "nodes", "movers"] (spContact K) := by
  have GT : FnOk P w K mg base CX0 (k + 1) fT fdT ["one", "other", "nodes"] (spTwo K) := ok_two FT mi ml
  refine F.ok scContact (fun vs H Q E h => ?_) (fun cdv A outer s H vs Q E hr h => ?_)
  · obtain ⟨a, nl, ml, ns, at_, zs, ms, rfl, _⟩ := h
    rfl
  · obtain ⟨a, nl, mlst, ns, at_, zs, ms, rfl, hS, hn, hat, hN, z2, z3, nd, hM, m3, q⟩ := h
    refine ⟨_, pss_cons (ps_set (i := 4) scContact.nd rfl (.inl rfl) (pe_call GT hr (by rfl) gT FT.kp bT .nil pass0 (pa_cons (pe_ix ix_list (pv 0) (pv 1) (fun _ _ => rfl)) (pa_cons (pe_ix ix_list (pv 0) (pe_op op_add (pv 1) pe_int) (fun _ _ => rfl)) (pa_cons (pv 2) pa_nil)))))
      (pss_cons (ps_set (i := 5) scContact.nd rfl (.inl rfl) (pe_ix ix_list (pe_lst (pa_cons pe_str (pa_cons pe_str pa_nil))) (pe_op op_mod (pe_callTy call_int1 (by rfl) mi (by decide +kernel) (pa_cons (pe_ix ix_list (pv 0) (pe_op op_add (pv 1) pe_int) (fun _ _ => rfl)) pa_nil)) pe_int) (fun _ _ => rfl)))
      (pss_cons (ps_set (i := 6) scContact.nd rfl (.inl rfl) (pe_op op_mod (pe_callTy call_int1 (by rfl) mi (by decide +kernel) (pa_cons (pe_ix ix_list (pv 0) (pe_op op_add (pv 1) pe_int) (fun _ _ => rfl)) pa_nil)) (pe_op op_add (pe_callB call_len_seq (by rfl) ml PySem.boot_len (pa_cons (pv 3) pa_nil)) pe_int)))
      (pss_cons (ps_if (pt_cmpR op_eq (pv 6) (pe_callB call_len_seq (by rfl) ml PySem.boot_len (pa_cons (pv 3) pa_nil)) (nomark _))
        (pss_one (ps_ret (pe_tup (pa_cons (pe_ix ix_tup (pv 4) pe_int (fun _ _ => rfl)) (pa_cons (pe_ix ix_tup (pv 4) pe_int (fun _ _ => rfl)) (pa_cons pe_non (pa_cons pe_str (pa_cons (pv 5) pa_nil)))))))) pss_nil)
      (pss_one (ps_ret (pe_tup (pa_cons (pe_ix ix_tup (pv 4) pe_int (fun _ _ => rfl)) (pa_cons (pe_ix ix_tup (pv 4) pe_int (fun _ _ => rfl)) (pa_cons (pe_ix ix_list (pv 3) (pv 6) (fun _ _ => rfl)) (pa_cons (pe_ix ix_list (pe_lst (pa_cons pe_str (pa_cons pe_str pa_nil))) (pe_op op_mod (pe_callTy call_int1 (by rfl) mi (by decide +kernel) (pa_cons (pe_ix ix_list (pv 0) (pe_op op_add (pv 1) pe_int) (fun _ _ => rfl)) pa_nil)) pe_int) (fun _ _ => rfl)) (pa_cons (pv 5) pa_nil))))))))))), ?_⟩
    obtain ⟨a0, a1, ga⟩ := at_get hn (show at_ < ns.length by omega)
    obtain ⟨b0, b1, gb⟩ := at_get hn (show at_ + 1 < ns.length by omega)
    obtain ⟨c0, c1, gc⟩ := at_get hn (show at_ + 2 < ns.length by omega)
    obtain ⟨d0, d1, gd⟩ := at_get hn (show at_ + 3 < ns.length by omega)
    obtain ⟨f0, f1, gf⟩ := at_get hn (show at_ + 4 < ns.length by omega)
    refine ⟨_, rfl, _, rfl, a, _, _, _, rfl, rfl, hS, ga _ rfl, _, rfl, _, rfl, _, _, rfl, rfl, a, _, _, _, rfl, rfl, hS, gb _ (by omega), _, rfl, _, _, nl, zs, rfl, hN, a0, b0, z2, z3, nd, fun H1 t u v s1 nt ht hu hv huv => ?_⟩
    -- way
    refine ⟨by show 2 ≤ sizeLine; decide, fun o no => ?_⟩
    have s2 := s1.trans (same_upd (o := .lst [.str "both", .str "forward"]) no)
    obtain ⟨wy, hw, ew⟩ := pick2 bothS forwardS (getI ns (at_ + 4)) f0
    refine ⟨_, rfl, _, rfl, _, _, rfl, rfl, a, _, _, _, rfl, rfl, s2.seq hS, gf _ (by omega), .inl ⟨_, rfl, _, _, rfl, rfl, (by show (0 : Int) < 2; decide), o, _, _, _, rfl, rfl, sq upd_same, ew, ?_⟩⟩
    -- choice
    have hL : ((ms.map V.str).length : Int) = (ms.length : Int) := by rw [List.length_map]
    refine ⟨_, rfl, _, rfl, _, _, rfl, rfl, a, _, _, _, rfl, rfl, s2.seq hS, gc _ (by omega), .inl ⟨_, rfl, _, rfl, mlst, _, rfl, .inl (s2.seq hM), _, _, rfl, rfl, _, _, rfl, rfl, (by omega), ?_⟩⟩
    rw [hL]
    have e0 := Int.emod_nonneg (getI ns (at_ + 2)) (show (ms.length : Int) + 1 ≠ 0 by omega)
    have e1 := Int.emod_lt_of_pos (getI ns (at_ + 2)) (show 0 < (ms.length : Int) + 1 by omega)
    have ht2 := same_upd no t _ ht (o := .lst [.str "both", .str "forward"])
    refine ⟨_, rfl, _, rfl, mlst, _, rfl, .inl (s2.seq hM), rfl, _, rfl, ?_⟩
    rw [hL]
    refine ite2 (fun e => ?_) (fun e => ?_)
    · refine ⟨_, rfl, t, _, 0, _, rfl, rfl, st ht2, rfl, _, rfl, t, _, 1, _, rfl, rfl, st ht2, rfl, _, rfl, by show 5 ≤ sizeLine; decide, fun t2 nt2 => ?_⟩
      exact q _ t2 ⟨u, v, none, makeS, wy⟩ (s2.trans (same_upd nt2)) (s2.free nt2) upd_same (ctB_mk hu hv huv hw rfl)
    · have ne : ¬ getI ns (at_ + 2) % ((ms.length : Int) + 1) = (ms.length : Int) := fun z => e (decide_eq_true (congrArg V.int z))
      obtain ⟨mo, hmo, _, em⟩ := at_str (zs := ms) _ e0 (show _ < _ by omega)
      obtain ⟨wh, hwh, eh⟩ := pick2 makeS breakS (getI ns (at_ + 3)) d0
      refine ⟨_, rfl, t, _, 0, _, rfl, rfl, st ht2, rfl, _, rfl, t, _, 1, _, rfl, rfl, st ht2, rfl, _, rfl, _, rfl, mlst, _, _, _, rfl, rfl, s2.seq hM, em, by show 2 ≤ sizeLine; decide, fun o3 no3 => ?_⟩
      have s3 := s2.trans (same_upd (o := .lst [.str "make", .str "break"]) no3)
      refine ⟨_, rfl, _, rfl, _, _, rfl, rfl, a, _, _, _, rfl, rfl, s3.seq hS, gd _ (by omega), .inl ⟨_, rfl, _, _, rfl, rfl, (by show (0 : Int) < 2; decide), o3, _, _, _, rfl, rfl, sq upd_same, eh, _, rfl, by show 5 ≤ sizeLine; decide, fun t2 nt2 => ?_⟩⟩
      exact q _ t2 ⟨u, v, some mo, wh, wy⟩ (s3.trans (same_upd nt2)) (s3.free nt2) upd_same (ctB_mk hu hv huv hw ⟨hmo, hwh⟩)
/-! ### _law_loads, _law_parts -/
def LoadOk (zs : List Str) (r : Sp3) : Prop := r.one ∈ zs ∧ r.oth ∈ zs ∧ r.one ≠ r.oth
def spLoads (K : PySem.W.Frag) : Sp := fun vs H Q _ => ∃ (a nm nl : Addr) (ns : List Int) (at_ : Nat) (ws zs : List Str), vs = [.ref a, .int at_, .ref nm, .ref nl] ∧ SqL K H a (ns.map V.int) ∧ Nums ns ∧ at_ + 2 * ws.length ≤ ns.length ∧ SqL K H nm (ws.map V.str) ∧ ws.length ≤ 1000 ∧
  SqL K H nl (zs.map V.str) ∧ 2 ≤ zs.length ∧ zs.length ≤ 1000 ∧ zs.Nodup ∧
  ∀ H' p xs (rs : List Sp3), Same H H' → H p = none → H' p = some (.lst xs) → Rows K H' xs (rs.map Sp3.row) → rs.map (·.nm) = ws → (∀ r ∈ rs, LoadOk zs r) → Q (.ref p) H'
theorem scLoads : FnScope ["numbers", "at", "names", "nodes", "loads", "k", "ends"] ["numbers", "at", "names", "nodes"] (defScope sLawLoads) := ⟨rfl, rfl, rfl, by decide +kernel, rfl, by decide +kernel, by decide +kernel⟩
theorem Rows.updl {K : PySem.W.Frag} {H : Hp} {o : Addr} {l0 : List V} {ho : HO} (h : H o = some (.lst l0)) : ∀ {xs : List V} {rs : List (List V)}, Rows K H xs rs → Rows K (upd H o ho) xs rs
  | [], [], _ => True.intro
  | _ :: _, _ :: _, ⟨⟨t, e, q⟩, r⟩ => by
    refine ⟨⟨t, e, ?_⟩, r.updl h⟩
    rcases q with (q | ⟨u, q⟩) | q
    · exact .inl (.inl (by rw [upd_ne (ne_of q h (by intro z; cases z))]; exact q))
    · exact .inl (.inr ⟨u, by rw [upd_ne (ne_of q h (by intro z; cases z))]; exact q⟩)
    · exact .inr q
theorem ok_loads {f fT : Addr} {fd fdT : FuncData} {k : Nat} (F : Fun K "_law_loads" "_law_loads" sLawLoads f fd) (FT : Fun K "_law_two" "_law_two" sLawTwo fT fdT) (bT : Binds K fdT ["one", "other", "nodes"] []) (gT : mg "_law_two" = some (.ref fT))
    (mi : mg "int" = none) (ml : mg "len" = none) (mr : mg "range" = none) : FnOk P w K mg base CX0 (k + 2) f fd ["numbers", "at", "names", "nodes"] (spLoads K) := by
  have GT : FnOk P w K mg base CX0 (k + 1) fT fdT ["one", "other", "nodes"] (spTwo K) := ok_two FT mi ml
  refine F.ok scLoads (fun vs H Q E h => ?_) (fun cdv A outer s H vs Q E hr h => ?_)
  · obtain ⟨a, nm, nl, ns, at_, ws, zs, rfl, _⟩ := h
    rfl
  · obtain ⟨a, nm, nl, ns, at_, ws, zs, rfl, hS, hn, hat, hW, w3, hN, z2, z3, nd, q⟩ := h
    refine ⟨_, pss_cons (ps_set (i := 4) scLoads.nd rfl (.inl rfl) (pe_lst pa_nil))
      (pss_cons (ps_for PassesOwn.never rfl (pi_range1 rfl mr (pa_cons (pe_callB call_len_seq (by rfl) ml PySem.boot_len (pa_cons (pv 2) pa_nil)) pa_nil)) (pg_name (i := 5) scLoads.nd rfl (.inl rfl))
        (pss_cons (ps_set (i := 6) scLoads.nd rfl (.inl rfl) (pe_call GT hr (by rfl) gT FT.kp bT .nil pass0 (pa_cons (pe_ix ix_list (pv 0) (pe_op op_add (pv 1) (pe_op op_mul pe_int (pv 5))) (fun _ _ => rfl)) (pa_cons (pe_ix ix_list (pv 0) (pe_op op_add (pe_op op_add (pv 1) pe_int) (pe_op op_mul pe_int (pv 5))) (fun _ _ => rfl)) (pa_cons (pv 3) pa_nil)))))
        (pss_one (ps_expr (pe_bm PySem.F.plainAttrs_list PySem.F.slot_list_append PySem.F.type_list_append mt_append (pv 4) (pa_cons (pe_tup (pa_cons (pe_ix ix_list (pv 2) (pv 5) (fun _ _ => rfl)) (pa_cons (pe_ix ix_tup (pv 6) pe_int (fun _ _ => rfl)) (pa_cons (pe_ix ix_tup (pv 6) pe_int (fun _ _ => rfl)) pa_nil)))) pa_nil))))))
      (pss_one (ps_ret (pv 4)))), ?_⟩
    refine ⟨Nat.zero_le _, fun o no => ?_⟩
    have s1 : Same H (upd H o (.lst [])) := same_upd no
    have hL : ((ws.map V.str).length : Int) = (ws.length : Int) := by rw [List.length_map]
    refine ⟨_, rfl, nm, _, rfl, .inl (s1.seq hW), (ws.length : Int), by rw [← hL], by omega, by omega, ?_⟩
    refine for_range (lo := 0) (n := (ws.length : Int).toNat) (fun i σ H2 => ∃ (z5 z6 : Option V) (xs : List V) (rs : List Sp3), σ = [some (.ref a), some (.int at_), some (.ref nm), some (.ref nl), some (.ref o), z5, z6] ∧ Same H H2 ∧ H2 o = some (.lst xs) ∧ Rows K H2 xs (rs.map Sp3.row) ∧ rs.map (·.nm) = ws.take i ∧ ∀ r ∈ rs, LoadOk zs r)
      ⟨none, none, [], [], rfl, s1, upd_same, True.intro, by simp, fun r hr => by cases hr⟩ ?_ ?_
    · rintro i σ H2 hi ⟨z5, z6, xs, rs, rfl, sm, ho, hR, hnm, hok⟩
      have hi2 : i < ws.length := by omega
      obtain ⟨a0, a1, ga⟩ := at_get hn (show at_ + 2 * i < ns.length by omega)
      obtain ⟨b0, b1, gb⟩ := at_get hn (show at_ + 1 + 2 * i < ns.length by omega)
      refine ⟨_, rfl, _, rfl, _, rfl, _, _, rfl, rfl, .inl ⟨by decide, by decide⟩, _, _, rfl, rfl, a, _, _, _, rfl, rfl, sm.seq hS, ga _ (by omega), _, rfl, _, rfl, _, _, rfl, rfl, _, rfl, _, _, rfl, rfl, .inl ⟨by decide, by decide⟩, _, _, rfl, rfl, a, _, _, _, rfl, rfl, sm.seq hS, gb _ (by omega), _, rfl, _, _, nl, zs, rfl, sm.seq hN, a0, b0, z2, z3, nd, fun H3 t u v s3 nt ht hu hv huv => ?_⟩
      have sm3 := sm.trans s3
      have ho3 := s3 _ _ ho
      obtain ⟨y, hy, iy, ey⟩ := at_str (zs := ws) (0 + (i : Int)) (by omega) (by omega)
      have iy' : ws[i]? = some y := by rw [← iy]; congr 1; omega
      refine ⟨.ref o, rfl, .inl ⟨rfl, _, sq ho3⟩, _, rfl, _, rfl, nm, _, _, _, rfl, rfl, sm3.seq hW, ey, _, rfl, t, _, 0, _, rfl, rfl, st ht, rfl, _, rfl, t, _, 1, _, rfl, rfl, st ht, rfl, by show 3 ≤ sizeLine; decide, fun t2 nt2 => ?_⟩
      have no2 : o ≠ t2 := ne_of_none ho3 nt2
      have ho4 : (upd H3 t2 (.tup [.str y, .str u, .str v])) o = some (.lst xs) := by rw [upd_ne no2]; exact ho3
      have lR := hR.len
      have lnm := congrArg List.length hnm
      rw [List.length_map, List.length_take] at lnm
      rw [List.length_map] at lR
      refine ⟨o, _, _, rfl, rfl, ho4, szlt (by omega), ?_⟩
      refine ⟨_, _, xs ++ [.ref t2], rs ++ [⟨y, u, v⟩], rfl, same_mut (sm3.trans (same_upd nt2)) no, upd_same, ?_, ?_, ?_⟩
      · rw [List.map_append]
        refine Rows.snoc ?_ (Rows.updl ho4 ((hR.mono s3).mono (same_upd nt2)))
        exact .inl (.inl (by rw [upd_ne no2.symm]; exact upd_same))
      · rw [List.map_append, hnm, List.take_add_one, iy']
        rfl
      · intro r hr
        rcases List.mem_append.mp hr with h | h
        · exact hok r h
        · rw [List.mem_singleton.mp h]
          exact ⟨hu, hv, huv⟩
    · rintro σ H2 ⟨z5, z6, xs, rs, rfl, sm, ho, hR, hnm, hok⟩
      exact ⟨_, rfl, q H2 o xs rs sm no ho hR (by rw [hnm, show (ws.length : Int).toNat = ws.length by omega, List.take_length]) hok⟩
/-- the parts of the board b stand at p: a tuple of five lists -/
def PartsAt (K : PySem.W.Frag) (H : Hp) (p : Addr) (b : Bd) : Prop := ∃ (n s r l c : Addr) (xr xl xc : List V), H p = some (.tup [.ref n, .ref s, .ref r, .ref l, .ref c]) ∧ H n = some (.lst (b.nodes.map V.str)) ∧ H s = some (.lst (b.switches.map V.str)) ∧ H r = some (.lst xr) ∧ H l = some (.lst xl) ∧ H c = some (.lst xc) ∧
  Rows K H xr (b.relays.map Sp3.row) ∧ Rows K H xl (b.lamps.map Sp3.row) ∧ Rows K H xc (b.contacts.map Ct.row)
theorem PartsAt.mono {K : PySem.W.Frag} {H H' : Hp} {p : Addr} {b : Bd} (s : Same H H') : PartsAt K H p b → PartsAt K H' p b
  | ⟨n, s1, r, l, c, xr, xl, xc, h0, h1, h2, h3, h4, h5, h6, h7, h8⟩ => ⟨n, s1, r, l, c, xr, xl, xc, s _ _ h0, s _ _ h1, s _ _ h2, s _ _ h3, s _ _ h4, s _ _ h5, h6.mono s, h7.mono s, h8.mono s⟩
structure Drawn (ns : List Int) (b : Bd) : Prop where
  ok : b.Ok
  few : Few b
  nm : b.nodes = namesF ns 0 b.nodes.length
  mv : b.movers = namesF ns 6 b.movers.length
  lp : b.lamps.map (·.nm) = namesF ns 13 b.lamps.length
def spParts (K : PySem.W.Frag) : Sp := fun vs H Q _ => ∃ (a : Addr) (ns : List Int), vs = [.ref a] ∧ SqL K H a (ns.map V.int) ∧ Nums ns ∧ 254 ≤ ns.length ∧ ∀ H' p b, Same H H' → H p = none → PartsAt K H' p b → Drawn ns b → Q (.ref p) H'
theorem scParts : FnScope ["numbers", "nodes", "switches", "movers", "relays", "lamps", "contacts", "k"] ["numbers"] (defScope sLawParts) := ⟨rfl, rfl, rfl, by decide +kernel, rfl, by decide +kernel, by decide +kernel⟩
theorem Nm.ok {z : Str} (h : Nm z) : isNm z = true := isNm_iff.mpr h
theorem areNm_mk {zs : List Str} {lo hi : Nat} (h1 : ∀ z ∈ zs, Nm z) (h2 : zs.Nodup) (h3 : lo ≤ zs.length) (h4 : zs.length ≤ hi) : areNm zs lo hi = true := by
  unfold areNm
  rw [decide_eq_true h2, decide_eq_true h3, decide_eq_true h4, Bool.and_true, Bool.and_true, Bool.and_true, List.all_eq_true]
  exact fun z hz => (h1 z hz).ok
theorem spanB_mk {zs : List Str} {r : Sp3} (h1 : Nm r.nm) (h2 : LoadOk zs r) : spanB zs r = true := by
  unfold spanB
  rw [h1.ok, decide_eq_true h2.1, decide_eq_true h2.2.1, decide_eq_false h2.2.2]
  rfl
theorem cut_drop_list (xs : List V) (n : Nat) : cutV xs (some (n : Int)) none = xs.drop n := by
  unfold cutV
  rw [HT.sIx_nat, HT.sIx_none]
  by_cases h : n ≤ xs.length
  · rw [Nat.min_eq_left h]
    exact List.take_of_length_le (by rw [List.length_drop]; exact Nat.le_refl _)
  · rw [Nat.min_eq_right (by omega), List.drop_length, List.drop_eq_nil_of_le (by omega)]
    simp
theorem ok_parts {f fM fN fT fL fC : Addr} {fd fdM fdN fdT fdL fdC : FuncData} {k : Nat} (F : Fun K "_law_parts" "_law_parts" sLawParts f fd)
    (FM : Fun K "_law_names" "_law_names" sLawNames fM fdM) (bM : Binds K fdM ["numbers", "at", "many"] []) (gM : mg "_law_names" = some (.ref fM))
    (FN : Fun K "_law_count" "_law_count" sLawCount fN fdN) (bN : Binds K fdN ["number", "least", "most"] []) (gN : mg "_law_count" = some (.ref fN))
    (FT : Fun K "_law_two" "_law_two" sLawTwo fT fdT) (bT : Binds K fdT ["one", "other", "nodes"] []) (gT : mg "_law_two" = some (.ref fT))
    (FL : Fun K "_law_loads" "_law_loads" sLawLoads fL fdL) (bL : Binds K fdL ["numbers", "at", "names", "nodes"] []) (gL : mg "_law_loads" = some (.ref fL))
    (FC : Fun K "_law_contact" "_law_contact" sLawContact fC fdC) (bC : Binds K fdC ["numbers", "at", "nodes", "movers"] []) (gC : mg "_law_contact" = some (.ref fC))
    (mi : mg "int" = none) (mr : mg "range" = none) (ml : mg "len" = none) (mn : mg "min" = none) : FnOk P w K mg base CX0 (k + 3) f fd ["numbers"] (spParts K) := by
  have GM : FnOk P w K mg base CX0 (k + 1) fM fdM ["numbers", "at", "many"] (spNames K) := ok_names FM mi mr ml
  have GN : FnOk P w K mg base CX0 (k + 1) fN fdN ["number", "least", "most"] spCount := ok_count FN mi mn
  have GL : FnOk P w K mg base CX0 (k + 2) fL fdL ["numbers", "at", "names", "nodes"] (spLoads K) := ok_loads FL FT bT gT mi ml mr
  have GC : FnOk P w K mg base CX0 (k + 2) fC fdC ["numbers", "at", "nodes", "movers"] (spContact K) := ok_contact FC FT bT gT mi ml
  refine F.ok scParts (fun vs H Q E h => ?_) (fun cdv A outer s H vs Q E hr h => ?_)
  · obtain ⟨a, ns, rfl, _⟩ := h
    rfl
  · obtain ⟨a, ns, rfl, hS, hn, hl, q⟩ := h
    have hr1 : Room (k + 1) _ := hr.mono (Nat.le_succ _)
    refine ⟨_, pss_cons (ps_set (i := 1) scParts.nd rfl (.inl rfl) (pe_call GM hr1 (by rfl) gM FM.kp bM .nil pass0 (pa_cons (pv 0) (pa_cons pe_int (pa_cons (pe_call GN hr1 (by rfl) gN FN.kp bN .nil pass0 (pa_cons (pe_ix ix_list (pv 0) pe_int (fun _ _ => rfl)) (pa_cons pe_int (pa_cons pe_int pa_nil)))) pa_nil)))))
      (pss_cons (ps_set (i := 2) scParts.nd rfl (.inl rfl) (pe_call GN hr1 (by rfl) gN FN.kp bN .nil pass0 (pa_cons (pe_ix ix_list (pv 0) pe_int (fun _ _ => rfl)) (pa_cons pe_int (pa_cons pe_int pa_nil)))))
      (pss_cons (ps_set (i := 3) scParts.nd rfl (.inl rfl) (pe_call GM hr1 (by rfl) gM FM.kp bM .nil pass0 (pa_cons (pv 0) (pa_cons pe_int (pa_cons (pe_op op_add (pv 2) (pe_call GN hr1 (by rfl) gN FN.kp bN .nil pass0 (pa_cons (pe_ix ix_list (pv 0) pe_int (fun _ _ => rfl)) (pa_cons pe_int (pa_cons pe_int pa_nil))))) pa_nil)))))
      (pss_cons (ps_set (i := 4) scParts.nd rfl (.inl rfl) (pe_call GL hr (by rfl) gL FL.kp bL .nil pass0 (pa_cons (pv 0) (pa_cons pe_int (pa_cons (pe_slice sl_list (pv 3) (po_some (pv 2)) po_none) (pa_cons (pv 1) pa_nil))))))
      (pss_cons (ps_set (i := 5) scParts.nd rfl (.inl rfl) (pe_call GL hr (by rfl) gL FL.kp bL .nil pass0 (pa_cons (pv 0) (pa_cons pe_int (pa_cons (pe_call GM hr1 (by rfl) gM FM.kp bM .nil pass0 (pa_cons (pv 0) (pa_cons pe_int (pa_cons (pe_call GN hr1 (by rfl) gN FN.kp bN .nil pass0 (pa_cons (pe_ix ix_list (pv 0) pe_int (fun _ _ => rfl)) (pa_cons pe_int (pa_cons pe_int pa_nil)))) pa_nil)))) (pa_cons (pv 1) pa_nil))))))
      (pss_cons (ps_set (i := 6) scParts.nd rfl (.inl rfl) (pe_lst pa_nil))
      (pss_cons (ps_for PassesOwn.never rfl (pi_range1 rfl mr (pa_cons (pe_call GN hr1 (by rfl) gN FN.kp bN .nil pass0 (pa_cons (pe_ix ix_list (pv 0) pe_int (fun _ _ => rfl)) (pa_cons pe_int (pa_cons pe_int pa_nil)))) pa_nil)) (pg_name (i := 7) scParts.nd rfl (.inl rfl))
        (pss_one (ps_expr (pe_bm PySem.F.plainAttrs_list PySem.F.slot_list_append PySem.F.type_list_append mt_append (pv 6) (pa_cons (pe_call GC hr (by rfl) gC FC.kp bC .nil pass0 (pa_cons (pv 0) (pa_cons (pe_op op_add pe_int (pe_op op_mul pe_int (pv 7))) (pa_cons (pv 1) (pa_cons (pv 3) pa_nil))))) pa_nil)))))
      (pss_one (ps_ret (pe_tup (pa_cons (pv 1) (pa_cons (pe_slice sl_list (pv 3) po_none (po_some (pv 2))) (pa_cons (pv 4) (pa_cons (pv 5) (pa_cons (pv 6) pa_nil)))))))))))))), ?_⟩
    obtain ⟨a5, _, g5⟩ := at_get hn (show 5 < ns.length by omega)
    obtain ⟨a11, _, g11⟩ := at_get hn (show 11 < ns.length by omega)
    obtain ⟨a12, _, g12⟩ := at_get hn (show 12 < ns.length by omega)
    obtain ⟨a18, _, g18⟩ := at_get hn (show 18 < ns.length by omega)
    obtain ⟨a19, _, g19⟩ := at_get hn (show 19 < ns.length by omega)
    -- nodes
    refine ⟨_, rfl, _, rfl, a, _, _, _, rfl, rfl, hS, g5 _ rfl, _, 2, 16, rfl, a5, by decide, by decide, fun n n2 n16 => ?_⟩
    refine ⟨a, ns, 0, n, rfl, hS, hn, by omega, by decide, by omega, fun H1 on s1 nn hn1 => ?_⟩
    -- switches
    refine ⟨_, rfl, a, _, _, _, rfl, rfl, s1.seq hS, g11 _ rfl, _, 0, 6, rfl, a11, by decide, by decide, fun sw _ s6 => ?_⟩
    -- movers
    refine ⟨_, rfl, _, rfl, _, rfl, a, _, _, _, rfl, rfl, s1.seq hS, g12 _ rfl, _, 0, 8, rfl, a12, by decide, by decide, fun rl _ r8 => ?_⟩
    refine ⟨_, _, rfl, rfl, a, ns, 6, sw + rl, by rw [Int.natCast_add]; rfl, s1.seq hS, hn, by omega, by decide, by omega, fun H2 om s2 nm hm2 => ?_⟩
    have s12 := s1.trans s2
    -- relays
    refine ⟨_, rfl, _, rfl, _, rfl, (sw : Int), rfl, om, _, rfl, sq hm2, fun o3 n3 => ?_⟩
    rw [cut_drop_list, ← List.map_drop]
    have s13 := s12.trans (same_upd (o := .lst (((namesF ns 6 (sw + rl)).drop sw).map V.str)) n3)
    have hn2 := s2 _ _ hn1
    have nd0 : (namesF ns 0 n).Nodup := namesF_nodup ns 0 n (by omega)
    have ln0 := namesF_len ns 0 n
    have lm0 := namesF_len ns 6 (sw + rl)
    have ldrop : ((namesF ns 6 (sw + rl)).drop sw).length = rl := by rw [List.length_drop, lm0]; omega
    refine ⟨_, rfl, a, o3, on, ns, 20, (namesF ns 6 (sw + rl)).drop sw, namesF ns 0 n, rfl, s13.seq hS, hn, by rw [ldrop]; omega, sq upd_same, by rw [ldrop]; omega, sq (same_upd n3 _ _ hn2), by omega, by omega, nd0, fun H4 orl xr rs s4 n4 h4 hR hnmR hokR => ?_⟩
    have s14 := s13.trans s4
    have hn4 := s4 _ _ (same_upd n3 (o := .lst (((namesF ns 6 (sw + rl)).drop sw).map V.str)) _ _ hn2)
    have hm4 := s4 _ _ (same_upd n3 (o := .lst (((namesF ns 6 (sw + rl)).drop sw).map V.str)) _ _ hm2)
    -- lamps
    refine ⟨_, rfl, _, rfl, _, rfl, a, _, _, _, rfl, rfl, s14.seq hS, g18 _ rfl, _, 1, 8, rfl, a18, by decide, by decide, fun la l1 l8 => ?_⟩
    refine ⟨a, ns, 13, la, rfl, s14.seq hS, hn, by omega, by decide, by omega, fun H5 o5 s5 n5 h5 => ?_⟩
    have s15 := s14.trans s5
    refine ⟨_, rfl, a, o5, on, ns, 36, namesF ns 13 la, namesF ns 0 n, rfl, s15.seq hS, hn, by rw [namesF_len]; omega, sq h5, by rw [namesF_len]; omega, sq (s5 _ _ hn4), by omega, by omega, nd0, fun H6 oll xl ls s6' n6 h6 hL hnmL hokL => ?_⟩
    have s16 := s15.trans s6'
    have hn6 := s6' _ _ (s5 _ _ hn4)
    have hm6 := s6' _ _ (s5 _ _ hm4)
    have h46 := s6' _ _ (s5 _ _ h4)
    have hR6 := (hR.mono s5).mono s6'
    -- contacts
    refine ⟨Nat.zero_le _, fun oc nc => ?_⟩
    have s7 := same_upd (o := .lst []) nc
    have s17 := s16.trans s7
    have nc0 : H oc = none := s16.free nc
    refine ⟨_, rfl, a, _, _, _, rfl, rfl, s17.seq hS, g19 _ rfl, _, 0, 40, rfl, a19, by decide, by decide, fun ct _ c40 => ?_⟩
    refine ⟨(ct : Int), rfl, by omega, by omega, ?_⟩
    refine for_range (lo := 0) (n := (ct : Int).toNat) (fun i σ H7 => ∃ (z7 : Option V) (xc : List V) (cs : List Ct), σ = [some (.ref a), some (.ref on), some (.int sw), some (.ref om), some (.ref orl), some (.ref oll), some (.ref oc), z7] ∧ Same H6 H7 ∧ H7 oc = some (.lst xc) ∧ Rows K H7 xc (cs.map Ct.row) ∧ cs.length = i ∧ ∀ c ∈ cs, ctB (namesF ns 0 n) (namesF ns 6 (sw + rl)) c = true)
      ⟨none, [], [], rfl, s7, upd_same, True.intro, rfl, fun c hc => by cases hc⟩ ?_ ?_
    · rintro i σ H7 hi ⟨z7, xc, cs, rfl, sm, hoc, hC, hcl, hok⟩
      have hi2 : i < ct := by omega
      have s07 := s16.trans sm
      refine ⟨_, rfl, .inl ⟨rfl, _, sq hoc⟩, _, rfl, _, rfl, _, _, rfl, rfl, .inl ⟨by decide, by decide⟩, _, _, rfl, rfl, _, rfl, _, rfl, a, on, om, ns, 52 + 5 * i, namesF ns 0 n, namesF ns 6 (sw + rl), ?_, s07.seq hS, hn, by omega, sq (sm _ _ hn6), by omega, by omega, nd0, sq (sm _ _ hm6), by omega, fun H8 t c s8 nt ht hct => ?_⟩
      · have e : (52 : Int) + 5 * (0 + (i : Int)) = ((52 + 5 * i : Nat) : Int) := by omega
        show [V.ref a, V.int (52 + 5 * (0 + (i : Int))), V.ref on, V.ref om] = _
        rw [e]
      · have hoc8 := s8 _ _ hoc
        have lc := hC.len
        rw [List.length_map] at lc
        refine ⟨oc, _, _, rfl, rfl, hoc8, szlt (by omega), ?_⟩
        have not : oc ≠ t := ne_of_none hoc nt
        refine ⟨_, xc ++ [.ref t], cs ++ [c], rfl, same_mut (sm.trans s8) nc, upd_same, ?_, by rw [List.length_append, hcl]; rfl, fun d hd => ?_⟩
        · rw [List.map_append]
          refine Rows.snoc ?_ (Rows.updl hoc8 (hC.mono s8))
          exact .inl (.inl (by rw [upd_ne not.symm]; exact ht))
        · rcases List.mem_append.mp hd with h | h
          · exact hok d h
          · rw [List.mem_singleton.mp h]
            exact hct
    · rintro σ H7 ⟨z7, xc, cs, rfl, sm, hoc, hC, hcl, hok⟩
      have s07 := s16.trans sm
      refine ⟨_, rfl, _, rfl, _, rfl, (sw : Int), rfl, om, _, rfl, sq (sm _ _ hm6), fun o8 n8 => ?_⟩
      rw [cut_list, ← List.map_take]
      have s8 := same_upd (o := .lst (((namesF ns 6 (sw + rl)).take sw).map V.str)) n8
      refine ⟨_, rfl, _, rfl, _, rfl, by show 5 ≤ sizeLine; decide, fun p np => ?_⟩
      have s9 := same_upd (o := .tup [.ref on, .ref o8, .ref orl, .ref oll, .ref oc]) np
      have s89 := s8.trans s9
      have lrs : rs.length = rl := by
        have := congrArg List.length hnmR
        rw [List.length_map, ldrop] at this
        exact this
      have lls : ls.length = la := by
        have := congrArg List.length hnmL
        rw [List.length_map, namesF_len] at this
        exact this
      have emv : (⟨namesF ns 0 n, (namesF ns 6 (sw + rl)).take sw, rs, ls, cs⟩ : Bd).movers = namesF ns 6 (sw + rl) := by
        show (namesF ns 6 (sw + rl)).take sw ++ rs.map (·.nm) = _
        rw [hnmR, List.take_append_drop]
      have lcs : cs.length ≤ 40 := by omega
      have nmle : ∀ (at_ m : Nat), ∀ z ∈ namesF ns at_ m, z.length ≤ 1000000 := fun at_ m z hz => by
        have := (namesF_nm ns at_ m z hz).2.1
        omega
      refine q _ p ⟨namesF ns 0 n, (namesF ns 6 (sw + rl)).take sw, rs, ls, cs⟩ (s07.trans s89) ((s07.trans s8).free np) ⟨on, o8, orl, oll, oc, xr, xl, xc, upd_same, s89 _ _ (sm _ _ hn6), s9 _ _ upd_same, s89 _ _ (sm _ _ h46), s89 _ _ (sm _ _ h6), s89 _ _ hoc, (hR6.mono sm).mono s89, (hL.mono sm).mono s89, hC.mono s89⟩ ⟨⟨?_, ?_, ?_, ?_, ?_, ?_, ?_, ?_, ?_⟩, ⟨?_, ?_, ?_, ?_, ?_, ?_, ?_, ?_, ?_⟩, ?_, ?_, ?_⟩
      · show areNm (namesF ns 0 n) 2 16 = true
        exact areNm_mk (namesF_nm ns 0 n) nd0 (by omega) (by omega)
      · show ((namesF ns 6 (sw + rl)).take sw).length ≤ 6
        rw [List.length_take]
        omega
      · show rs.length ≤ 8
        omega
      · rw [emv]
        exact areNm_mk (namesF_nm ns 6 _) (namesF_nodup ns 6 _ (by omega)) (Nat.zero_le _) (Nat.le_refl _)
      · show areNm (ls.map (·.nm)) 1 8 = true
        rw [hnmL]
        exact areNm_mk (namesF_nm ns 13 la) (namesF_nodup ns 13 la (by omega)) (by rw [namesF_len]; exact l1) (by rw [namesF_len]; exact l8)
      · intro r hr'
        refine spanB_mk (namesF_nm ns 6 (sw + rl) _ (List.mem_of_mem_drop (i := sw) ?_)) (hokR r hr')
        rw [← hnmR]
        exact List.mem_map.mpr ⟨r, hr', rfl⟩
      · intro r hr'
        refine spanB_mk (namesF_nm ns 13 la _ ?_) (hokL r hr')
        rw [← hnmL]
        exact List.mem_map.mpr ⟨r, hr', rfl⟩
      · exact lcs
      · rw [emv]
        exact hok
      · show (namesF ns 0 n).length ≤ 1000
        omega
      · show ((namesF ns 6 (sw + rl)).take sw).length ≤ 1000
        rw [List.length_take]
        omega
      · show rs.length ≤ 1000
        omega
      · show ls.length ≤ 1000
        omega
      · show cs.length ≤ 1000
        omega
      · exact nmle 0 n
      · exact fun z hz => nmle 6 (sw + rl) z (List.mem_of_mem_take hz)
      · intro r hr'
        refine nmle 6 (sw + rl) _ (List.mem_of_mem_drop (i := sw) ?_)
        rw [← hnmR]
        exact List.mem_map.mpr ⟨r, hr', rfl⟩
      · intro r hr'
        refine nmle 13 la _ ?_
        rw [← hnmL]
        exact List.mem_map.mpr ⟨r, hr', rfl⟩
      · show namesF ns 0 n = namesF ns 0 (namesF ns 0 n).length
        rw [ln0]
      · rw [emv, lm0]
      · show ls.map (·.nm) = namesF ns 13 ls.length
        rw [hnmL, lls]
/-! ### _law_made -/
def gInit {α : Type} : List α → List α → List α
  | [x], [n, s, r, l, c] => [x, n, l, s, r, c]
  | us, _ => us
theorem kb_init {f : Addr} {fd : FuncData} (F : Fun K "__init__" "Board.__init__" sBoardInit f fd) : KBn K fd ["self", "nodes", "lamps", "switches", "relays", "contacts"] 1 ["nodes", "switches", "relays", "lamps", "contacts"] gInit gInit := by
  obtain ⟨oc, od, kV, doc, pm, an, cdv, ct, osl, rfl, lk, hcd⟩ := F.ex
  refine ⟨fun s us ws _ h1 h2 => ?_, fun {vs us zs ws} h1 h2 => ?_⟩
  · match us, h1, ws, h2 with
    | [_], _, [_, _, _, _, _], _ => exact .of_eq rfl
  · cases h1 with
    | nil => exact .nil
    | cons a1 r1 =>
      cases r1 with
      | cons a2 r2 => exact .cons a1 (.cons a2 r2)
      | nil =>
        cases h2 with
        | nil => exact .cons a1 .nil
        | cons b1 q1 =>
          cases q1 with
          | nil => exact .cons a1 .nil
          | cons b2 q2 =>
            cases q2 with
            | nil => exact .cons a1 .nil
            | cons b3 q3 =>
              cases q3 with
              | nil => exact .cons a1 .nil
              | cons b4 q4 =>
                cases q4 with
                | nil => exact .cons a1 .nil
                | cons b5 q5 =>
                  cases q5 with
                  | nil => exact .cons a1 (.cons b1 (.cons b4 (.cons b2 (.cons b3 (.cons b5 .nil)))))
                  | cons _ _ => exact .cons a1 .nil
def spMade (K : PySem.W.Frag) (C : Addr) : Sp := fun vs H Q _ => ∃ (p : Addr) (b : Bd), vs = [.ref p] ∧ PartsAt K H p b ∧ Few b ∧ b.Ok ∧ ∀ H' q, Same H H' → H q = none → BoardAt K C H' q b → Q (.ref q) H'
theorem scMade : FnScope ["parts"] ["parts"] (defScope sLawMade) := ⟨rfl, rfl, rfl, by decide +kernel, rfl, by decide +kernel, by decide +kernel⟩
theorem ok_made {f fI C : Addr} {fd fdI : FuncData} {k : Nat} (F : Fun K "_law_made" "_law_made" sLawMade f fd) (M : Mk K C fI) (FI : Fun K "__init__" "Board.__init__" sBoardInit fI fdI) (mgB : mg "Board" = some (.ref C)) (ml : mg "list" = none)
    (GI : FnOk P w K mg base CX0 (k + 4) fI fdI ["self", "nodes", "lamps", "switches", "relays", "contacts"] (spInit K C)) : FnOk P w K mg base CX0 (k + 6) f fd ["parts"] (spMade K C) := by
  have KB := kb_init FI
  refine F.ok scMade (fun vs H Q E h => ?_) (fun cdv A outer s H vs Q E hr h => ?_)
  · obtain ⟨p, b, rfl, _⟩ := h
    rfl
  · obtain ⟨p, b, rfl, hp, few, ok, q⟩ := h
    obtain ⟨n, sw, r, l, c, xr, xl, xc, h0, h1, h2, h3, h4, h5, h6, h7, h8⟩ := hp
    refine ⟨_, pss_one (ps_ret (pe_makeK0 M GI hr rfl mgB KB pass0
      (pk_cons (pe_callTy call_list_of (by rfl) ml (by decide +kernel) (pa_cons (pe_ix ix_tup (pv 0) pe_int (fun _ _ => rfl)) pa_nil))
      (pk_cons (pe_callTy call_list_of (by rfl) ml (by decide +kernel) (pa_cons (pe_ix ix_tup (pv 0) pe_int (fun _ _ => rfl)) pa_nil))
      (pk_cons (pe_callTy call_list_of (by rfl) ml (by decide +kernel) (pa_cons (pe_ix ix_tup (pv 0) pe_int (fun _ _ => rfl)) pa_nil))
      (pk_cons (pe_callTy call_list_of (by rfl) ml (by decide +kernel) (pa_cons (pe_ix ix_tup (pv 0) pe_int (fun _ _ => rfl)) pa_nil))
      (pk_cons (pe_callTy call_list_of (by rfl) ml (by decide +kernel) (pa_cons (pe_ix ix_tup (pv 0) pe_int (fun _ _ => rfl)) pa_nil)) pk_nil))))))), ?_⟩
    refine ⟨_, rfl, p, _, 0, _, rfl, rfl, st h0, rfl, n, _, rfl, .inl (sq h1), fun o1 n1 => ?_⟩
    have s1 := same_upd (o := .lst (b.nodes.map V.str)) n1
    refine ⟨_, rfl, p, _, 1, _, rfl, rfl, st (s1 _ _ h0), rfl, sw, _, rfl, .inl (sq (s1 _ _ h2)), fun o2 n2 => ?_⟩
    have s2 := s1.trans (same_upd (o := .lst (b.switches.map V.str)) n2)
    refine ⟨_, rfl, p, _, 2, _, rfl, rfl, st (s2 _ _ h0), rfl, r, _, rfl, .inl (sq (s2 _ _ h3)), fun o3 n3 => ?_⟩
    have s3 := s2.trans (same_upd (o := .lst xr) n3)
    refine ⟨_, rfl, p, _, 3, _, rfl, rfl, st (s3 _ _ h0), rfl, l, _, rfl, .inl (sq (s3 _ _ h4)), fun o4 n4 => ?_⟩
    have s4 := s3.trans (same_upd (o := .lst xl) n4)
    refine ⟨_, rfl, p, _, 4, _, rfl, rfl, st (s4 _ _ h0), rfl, c, _, rfl, .inl (sq (s4 _ _ h5)), fun o5 n5 => ?_⟩
    have s5 := s4.trans (same_upd (o := .lst xc) n5)
    refine ⟨rfl, rfl, fun x dx nx ndx nex => ?_⟩
    have t5 := same_upd (o := .lst xc) n5
    have t4 := (same_upd (o := .lst xl) n4).trans t5
    have t3 := (same_upd (o := .lst xr) n3).trans t4
    have t2 := (same_upd (o := .lst (b.switches.map V.str)) n2).trans t3
    have gv : Given K _ b o1 o4 o2 o3 o5 := ⟨.inl (sq (t2 _ _ upd_same)), .inl (sq (t3 _ _ upd_same)), ⟨xl, .inl (sq (t5 _ _ upd_same)), RowsA.of (h7.mono s5)⟩, ⟨xr, .inl (sq (t4 _ _ upd_same)), RowsA.of (h6.mono s5)⟩, ⟨xc, .inl (sq upd_same), RowsA.of (h8.mono s5)⟩⟩
    refine ⟨x, dx, _, o1, o4, o2, o3, o5, b, rfl, upd_same, nx, same_mut (same_upd ndx) nx, gv, few, ok, fun H' s' hB => ⟨rfl, ?_⟩⟩
    exact q H' x (s5.trans s') (s5.free nx) hB
/-! ### _law_same -/
def vD : V → PyData
  | .str z => .str z
  | _ => .none
def FlatOk (v : V) : Prop := v = .non ∨ ∃ z, v = .str z ∧ PyData.strOk z = true
theorem flat_dp {K : PySem.W.Frag} {H : Hp} : ∀ xs : List V, (∀ v ∈ xs, FlatOk v) → DpAll K H xs (xs.map vD)
  | [], _ => .nil
  | v :: xs, h => by
    refine .cons ?_ (flat_dp xs fun u hu => h u (List.mem_cons_of_mem _ hu))
    rcases h v List.mem_cons_self with e | ⟨z, e, _⟩
    · rw [e]
      exact .non
    · rw [e]
      exact .str z
theorem flat_lay : ∀ xs : List V, (∀ v ∈ xs, FlatOk v) → PyData.canLayAll0 (xs.map vD) = true
  | [], _ => rfl
  | v :: xs, h => by
    show (PyData.canLay0 (vD v) && PyData.canLayAll0 (xs.map vD)) = true
    rw [flat_lay xs fun u hu => h u (List.mem_cons_of_mem _ hu), Bool.and_true]
    rcases h v List.mem_cons_self with e | ⟨z, e, hz⟩
    · rw [e]
      rfl
    · rw [e]
      exact hz
theorem flat_depth : ∀ xs : List V, PyData.depthAll (xs.map vD) = 0
  | [] => rfl
  | v :: xs => by
    show max (PyData.depth (vD v)) (PyData.depthAll (xs.map vD)) = 0
    rw [flat_depth xs]
    cases v <;> rfl
def rowsD (rs : List (List V)) : List PyData := rs.map fun r => .tuple (r.map vD)
theorem rows_dp {K : PySem.W.Frag} {H : Hp} : ∀ {xs : List V} {rs : List (List V)}, Rows K H xs rs → (∀ r ∈ rs, ∀ v ∈ r, FlatOk v) → DpAll K H xs (rowsD rs)
  | [], [], _, _ => .nil
  | _ :: _, r :: rs, ⟨⟨t, e, h⟩, q⟩, hf => by
    subst e
    exact .cons (.tup h (flat_dp r (hf r List.mem_cons_self))) (rows_dp q fun u hu => hf u (List.mem_cons_of_mem _ hu))
theorem rows_lay : ∀ rs : List (List V), (∀ r ∈ rs, ∀ v ∈ r, FlatOk v) → PyData.canLayAll0 (rowsD rs) = true
  | [], _ => rfl
  | r :: rs, h => by
    show (PyData.canLayAll0 (r.map vD) && PyData.canLayAll0 (rowsD rs)) = true
    rw [flat_lay r (h r List.mem_cons_self), rows_lay rs fun u hu => h u (List.mem_cons_of_mem _ hu)]
    rfl
theorem rows_depth : ∀ rs : List (List V), PyData.depthAll (rowsD rs) ≤ 1
  | [] => Nat.zero_le _
  | r :: rs => by
    show max (PyData.depthAll (r.map vD) + 1) (PyData.depthAll (rowsD rs)) ≤ 1
    have := rows_depth rs
    rw [flat_depth r]
    omega
theorem rows_shaped (rs : List (List V)) (h : ∀ r ∈ rs, ∀ v ∈ r, FlatOk v) : SeqAt.shaped (.tuple (rowsD rs)) = true := by
  show (PyData.canLayAll0 (rowsD rs) && decide (PyData.depthAll (rowsD rs) + 1 ≤ 64)) = true
  rw [rows_lay rs h]
  have := rows_depth rs
  rw [Bool.true_and, decide_eq_true_eq]
  omega
theorem flat_shaped (xs : List V) (h : ∀ v ∈ xs, FlatOk v) : SeqAt.shaped (.tuple (xs.map vD)) = true := by
  show (PyData.canLayAll0 (xs.map vD) && decide (PyData.depthAll (xs.map vD) + 1 ≤ 64)) = true
  rw [flat_lay xs h, flat_depth xs]
  rfl
theorem shaped_refl {d : PyData} (h : SeqAt.shaped d = true) : PyData.eqv d d = true := SeqAt.eqv_refl d (SeqAt.canLay_of_shaped h)
/-- two tuples of the same flat values: != says False -/
theorem ne_flat {K : PySem.W.Frag} {H : Hp} {a b : Addr} {xs : List V} {Q : VK} (h1 : SqT K H a xs) (h2 : SqT K H b xs) (hf : ∀ v ∈ xs, FlatOk v) (q : Q (.bl false) H) : rNeD K (.ref a) (.ref b) H Q := by
  have hs := flat_shaped xs hf
  refine ⟨_, _, .tup h1 (flat_dp xs hf), .tup h2 (flat_dp xs hf), hs, hs, ?_⟩
  rw [shaped_refl hs]
  exact q
theorem eq_flat {K : PySem.W.Frag} {H : Hp} {a b : Addr} {xs : List V} {Q : VK} (h1 : SqT K H a xs) (h2 : SqT K H b xs) (hf : ∀ v ∈ xs, FlatOk v) (q : Q (.bl true) H) : rEqD K (.ref a) (.ref b) H Q := by
  have hs := flat_shaped xs hf
  refine ⟨_, _, .tup h1 (flat_dp xs hf), .tup h2 (flat_dp xs hf), hs, hs, ?_⟩
  rw [shaped_refl hs]
  exact q
theorem ne_rows {K : PySem.W.Frag} {H : Hp} {a b : Addr} {xs ys : List V} {rs : List (List V)} {Q : VK} (h1 : SqT K H a xs) (h2 : SqT K H b ys) (r1 : Rows K H xs rs) (r2 : Rows K H ys rs) (hf : ∀ r ∈ rs, ∀ v ∈ r, FlatOk v) (q : Q (.bl false) H) : rNeD K (.ref a) (.ref b) H Q := by
  have hs := rows_shaped rs hf
  refine ⟨_, _, .tup h1 (rows_dp r1 hf), .tup h2 (rows_dp r2 hf), hs, hs, ?_⟩
  rw [shaped_refl hs]
  exact q
theorem eq_rows {K : PySem.W.Frag} {H : Hp} {a b : Addr} {xs ys : List V} {rs : List (List V)} {Q : VK} (h1 : SqT K H a xs) (h2 : SqT K H b ys) (r1 : Rows K H xs rs) (r2 : Rows K H ys rs) (hf : ∀ r ∈ rs, ∀ v ∈ r, FlatOk v) (q : Q (.bl true) H) : rEqD K (.ref a) (.ref b) H Q := by
  have hs := rows_shaped rs hf
  refine ⟨_, _, .tup h1 (rows_dp r1 hf), .tup h2 (rows_dp r2 hf), hs, hs, ?_⟩
  rw [shaped_refl hs]
  exact q
/-- every text of a board that may be is a text of plain signs -/
structure Texts (b : Bd) : Prop where
  n : ∀ v ∈ b.nodes.map V.str, FlatOk v
  s : ∀ v ∈ b.switches.map V.str, FlatOk v
  m : ∀ v ∈ b.movers.map V.str, FlatOk v
  r : ∀ x ∈ b.relays.map Sp3.row, ∀ v ∈ x, FlatOk v
  l : ∀ x ∈ b.lamps.map Sp3.row, ∀ v ∈ x, FlatOk v
  c : ∀ x ∈ b.contacts.map Ct.row, ∀ v ∈ x, FlatOk v
theorem nm_flat {zs : List Str} (h : ∀ z ∈ zs, Nm z) : ∀ v ∈ zs.map V.str, FlatOk v := fun v hv => by
  obtain ⟨z, hz, rfl⟩ := List.mem_map.mp hv
  exact .inr ⟨z, rfl, (h z hz).2.2.ok⟩
theorem span_nm {zs : List Str} {r : Sp3} (h : spanB zs r = true) : Nm r.nm ∧ r.one ∈ zs ∧ r.oth ∈ zs ∧ r.one ≠ r.oth := by
  unfold spanB at h
  simp only [Bool.and_eq_true, decide_eq_true_eq, Bool.not_eq_true', decide_eq_false_iff_not] at h
  exact ⟨isNm_iff.mp h.1, h.2.1, h.2.2.1, h.2.2.2⟩
theorem ctB_out {zs ms : List Str} {c : Ct} (h : ctB zs ms c = true) : c.one ∈ zs ∧ c.oth ∈ zs ∧ c.one ≠ c.oth ∧ c.way ∈ [bothS, forwardS] ∧ (match c.mv with | none => c.whn = makeS | some m => m ∈ ms ∧ c.whn ∈ [makeS, breakS]) := by
  unfold ctB at h
  cases e : c.mv with
  | none =>
    rw [e] at h
    simp only [Bool.and_eq_true, decide_eq_true_eq, Bool.not_eq_true', decide_eq_false_iff_not] at h
    exact ⟨h.1, h.2.1, h.2.2.1, h.2.2.2.2, h.2.2.2.1⟩
  | some m =>
    rw [e] at h
    simp only [Bool.and_eq_true, decide_eq_true_eq, Bool.not_eq_true', decide_eq_false_iff_not] at h
    exact ⟨h.1, h.2.1, h.2.2.1, h.2.2.2.2, h.2.2.2.1.1, h.2.2.2.1.2⟩
theorem whn_ok {z : Str} (h : z ∈ [makeS, breakS]) : PyData.strOk z = true := by
  have : ∀ y ∈ [makeS, breakS], PyData.strOk y = true := by decide +kernel
  exact this z h
theorem way_ok {z : Str} (h : z ∈ [bothS, forwardS]) : PyData.strOk z = true := by
  have : ∀ y ∈ [bothS, forwardS], PyData.strOk y = true := by decide +kernel
  exact this z h
theorem Bd.Ok.texts {b : Bd} (ok : b.Ok) : Texts b := by
  have hn := (areNm_names ok.nodes).1
  have hm := (areNm_names ok.mv).1
  have row3 : ∀ r : Sp3, spanB b.nodes r = true → ∀ v ∈ r.row, FlatOk v := fun r hr v hv => by
    have h := span_nm hr
    have : v = .str r.nm ∨ v = .str r.one ∨ v = .str r.oth := by simpa [Sp3.row] using hv
    rcases this with e | e | e
    · exact .inr ⟨_, e, h.1.2.2.ok⟩
    · exact .inr ⟨_, e, (hn _ h.2.1).2.2.ok⟩
    · exact .inr ⟨_, e, (hn _ h.2.2.1).2.2.ok⟩
  refine ⟨nm_flat hn, nm_flat fun z hz => hm z (List.mem_append.mpr (.inl hz)), nm_flat hm, fun x hx => ?_, fun x hx => ?_, fun x hx => ?_⟩
  · obtain ⟨r, hr, rfl⟩ := List.mem_map.mp hx
    exact row3 r (ok.spR r hr)
  · obtain ⟨r, hr, rfl⟩ := List.mem_map.mp hx
    exact row3 r (ok.spL r hr)
  · obtain ⟨c, hc, rfl⟩ := List.mem_map.mp hx
    have h := ctB_out (ok.cts c hc)
    intro v hv
    have : v = .str c.one ∨ v = .str c.oth ∨ v = mvV c.mv ∨ v = .str c.whn ∨ v = .str c.way := by simpa [Ct.row] using hv
    rcases this with e | e | e | e | e
    · exact .inr ⟨_, e, (hn _ h.1).2.2.ok⟩
    · exact .inr ⟨_, e, (hn _ h.2.1).2.2.ok⟩
    · cases em : c.mv with
      | none => exact .inl (by rw [e, em]; rfl)
      | some m =>
        have h5 := h.2.2.2.2
        rw [em] at h5
        exact .inr ⟨m, by rw [e, em]; rfl, (hm m h5.1).2.2.ok⟩
    · refine .inr ⟨_, e, ?_⟩
      cases em : c.mv with
      | none =>
        have h5 := h.2.2.2.2
        rw [em] at h5
        exact whn_ok (by rw [show c.whn = makeS from h5]; exact List.mem_cons_self)
      | some m =>
        have h5 := h.2.2.2.2
        rw [em] at h5
        exact whn_ok h5.2
    · exact .inr ⟨_, e, way_ok h.2.2.2.1⟩
theorem ty_tup {K : PySem.W.Frag} {H : Hp} {a : Addr} {xs : List V} (h : SqT K H a xs) : TyX K H (.ref a) (.type "tuple") := by
  rcases h with (h | ⟨o, h⟩) | ⟨o, its, n, h1, h2, _⟩
  · exact .base (.tup h)
  · exact .fTuple h
  · exact .kTuple h1 h2
def spSame (K : PySem.W.Frag) (C : Addr) : Sp := fun vs H Q _ => ∃ (pb pp : Addr) (b : Bd), vs = [.ref pb, .ref pp] ∧ BoardAt K C H pb b ∧ PartsAt K H pp b ∧ Texts b ∧ ∀ H', Same H H' → Q (.bl true) H'
theorem scSame : FnScope ["board", "parts", "field"] ["board", "parts"] (defScope sLawSame) := ⟨rfl, rfl, rfl, by decide +kernel, rfl, by decide +kernel, by decide +kernel⟩
theorem ok_same {f C sp sg : Addr} {mc : Value} {fd : FuncData} {k : Nat} (F : Fun K "_law_same" "_law_same" sLawSame f fd) (T : BTxt K mg C mc sp sg) (mi : mg "isinstance" = none) : FnOk P w K mg base CX0 (k + 1) f fd ["board", "parts"] (spSame K C) := by
  refine F.ok scSame (fun vs H Q E h => ?_) (fun cdv A outer s H vs Q E hr h => ?_)
  · obtain ⟨pb, pp, b, rfl, _⟩ := h
    rfl
  · obtain ⟨pb, pp, b, rfl, hb, hp, tx, q⟩ := h
    obtain ⟨dx, fs, tn, ts, tr, tl, tc, tm, yr, yl, yc, hpb, f, lm, hm, _⟩ := hb
    obtain ⟨n, sw, r, l, c, xr, xl, xc, h0, h1, h2, h3, h4, h5, h6, h7, h8⟩ := hp
    refine ⟨_, pss_cons (ps_for PassesOwn.never rfl (pi_list (pe_lst (pa_cons (pe_fld (pv 0) rfl) (pa_cons (pe_fld (pv 0) rfl) (pa_cons (pe_fld (pv 0) rfl) (pa_cons (pe_fld (pv 0) rfl) (pa_cons (pe_fld (pv 0) rfl) pa_nil))))))) (pg_name (i := 2) scSame.nd rfl (.inl rfl))
        (pss_one (ps_if (pt_not (pt_val (pe_callB call_isi (by rfl) mi (by decide +kernel) (pa_cons (pv 2) (pa_cons (pe_bltn (v := .ty "tuple") (by rfl) T.tup bt_tuple rfl) pa_nil))))) (pss_one (ps_ret pe_bl)) pss_nil)))
      (pss_cons (ps_if (PW.pt (pw_or (pt_cmpR (op_neD hr.units) (pe_fld (pv 0) rfl) (pe_callTy call_tupA (by rfl) T.tup (by decide +kernel) (pa_cons (pe_ix ix_tup (pv 1) pe_int (fun _ _ => rfl)) pa_nil)) (nomark _))
          (pw_or (pt_cmpR (op_neD hr.units) (pe_fld (pv 0) rfl) (pe_callTy call_tupA (by rfl) T.tup (by decide +kernel) (pa_cons (pe_ix ix_tup (pv 1) pe_int (fun _ _ => rfl)) pa_nil)) (nomark _))
          (pw_or1 (pt_cmpR (op_neD hr.units) (pe_fld (pv 0) rfl) (pe_callTy call_tupA (by rfl) T.tup (by decide +kernel) (pa_cons (pe_ix ix_tup (pv 1) pe_int (fun _ _ => rfl)) pa_nil)) (nomark _)))))) (pss_one (ps_ret pe_bl)) pss_nil)
      (pss_one (ps_ret (pe_and (pe_cmpR (op_eqD hr.units) (pe_fld (pv 0) rfl) (pe_callTy call_tupA (by rfl) T.tup (by decide +kernel) (pa_cons (pe_ix ix_tup (pv 1) pe_int (fun _ _ => rfl)) pa_nil)) (nomark _))
          (pe_one (pe_cmpR (op_eqD hr.units) (pe_fld (pv 0) rfl) (pe_callTy call_tupA (by rfl) T.tup (by decide +kernel) (pa_cons (pe_ix ix_tup (pv 1) pe_int (fun _ _ => rfl)) pa_nil)) (nomark _))))))), ?_⟩
    refine ⟨_, rfl, pb, C, dx, _, _, rfl, hpb, T.cl, T.nN, f.ln, _, rfl, pb, C, dx, _, _, rfl, hpb, T.cl, T.nS, f.ls, _, rfl, pb, C, dx, _, _, rfl, hpb, T.cl, T.nR, f.lr, _, rfl, pb, C, dx, _, _, rfl, hpb, T.cl, T.nL, f.ll, _, rfl, pb, C, dx, _, _, rfl, hpb, T.cl, T.nC, f.lc, by show 5 ≤ sizeLine; decide, fun o no => ?_⟩
    have s1 := same_upd (o := .lst [.ref tn, .ref ts, .ref tr, .ref tl, .ref tc]) no
    refine ⟨o, rfl, ⟨_, sq upd_same⟩, for_list (K := K) (a := o) (xs := [.ref tn, .ref ts, .ref tr, .ref tl, .ref tc]) (fun i σ H2 => ∃ z : Option V, σ = [some (.ref pb), some (.ref pp), z] ∧ H2 = upd H o (.lst [.ref tn, .ref ts, .ref tr, .ref tl, .ref tc])) ⟨none, rfl, rfl⟩ (fun i σ H2 _ ⟨_, _, e⟩ => by rw [e]; exact sq upd_same) ?_ ?_⟩
    · rintro i v σ H2 hi ⟨z, rfl, rfl⟩
      have hv : v ∈ [V.ref tn, .ref ts, .ref tr, .ref tl, .ref tc] := List.mem_of_getElem? hi
      have ty : TyX K (upd H o (.lst [.ref tn, .ref ts, .ref tr, .ref tl, .ref tc])) v (.type "tuple") := by
        simp only [List.mem_cons, List.not_mem_nil, or_false] at hv
        rcases hv with e | e | e | e | e <;> rw [e]
        · exact ty_tup (Same.sqt s1 f.hn)
        · exact ty_tup (Same.sqt s1 f.hs)
        · exact ty_tup (Same.sqt s1 f.hr)
        · exact ty_tup (Same.sqt s1 f.hl)
        · exact ty_tup (Same.sqt s1 f.hc)
      refine ⟨_, rfl, _, _, .type "tuple", .type "tuple", true, rfl, .ty "tuple", ty, kit_ty (by decide +kernel), _, rfl, ?_⟩
      refine iteF ?_
      exact ⟨_, rfl, rfl⟩
    · rintro σ H2 ⟨z, rfl, rfl⟩
      refine ⟨_, rfl, pb, C, dx, _, _, rfl, s1 _ _ hpb, T.cl, T.nN, f.ln, _, rfl, pp, _, 0, _, rfl, rfl, st (s1 _ _ h0), rfl, ?_⟩
      refine tup_any (.inl (sq (s1 _ _ h1))) fun u3 H3 s3 hu3 => ?_
      have s13 := s1.trans s3
      refine ne_flat (Same.sqt s13 f.hn) hu3 tx.n ⟨_, rfl, ?_⟩
      refine iteF ?_
      refine ⟨_, rfl, pb, C, dx, _, _, rfl, s13 _ _ hpb, T.cl, T.nS, f.ls, _, rfl, pp, _, 1, _, rfl, rfl, st (s13 _ _ h0), rfl, ?_⟩
      refine tup_any (.inl (sq (s13 _ _ h2))) fun u4 H4 s4 hu4 => ?_
      have s14 := s13.trans s4
      refine ne_flat (Same.sqt s14 f.hs) hu4 tx.s ⟨_, rfl, ?_⟩
      refine iteF ?_
      refine ⟨_, rfl, pb, C, dx, _, _, rfl, s14 _ _ hpb, T.cl, T.nR, f.lr, _, rfl, pp, _, 2, _, rfl, rfl, st (s14 _ _ h0), rfl, ?_⟩
      refine tup_any (.inl (sq (s14 _ _ h3))) fun u5 H5 s5 hu5 => ?_
      have s15 := s14.trans s5
      refine ne_rows (Same.sqt s15 f.hr) hu5 (f.rr.mono s15) (h6.mono s15) tx.r ⟨_, rfl, ?_⟩
      refine iteF ?_
      refine ⟨_, rfl, pb, C, dx, _, _, rfl, s15 _ _ hpb, T.cl, T.nL, f.ll, _, rfl, pp, _, 3, _, rfl, rfl, st (s15 _ _ h0), rfl, ?_⟩
      refine tup_any (.inl (sq (s15 _ _ h4))) fun u6 H6 s6 hu6 => ?_
      have s16 := s15.trans s6
      refine eq_rows (Same.sqt s16 f.hl) hu6 (f.rl.mono s16) (h7.mono s16) tx.l ⟨_, rfl, ?_⟩
      refine iteT ?_
      refine ⟨_, rfl, pb, C, dx, _, _, rfl, s16 _ _ hpb, T.cl, T.nC, f.lc, _, rfl, pp, _, 4, _, rfl, rfl, st (s16 _ _ h0), rfl, ?_⟩
      refine tup_any (.inl (sq (s16 _ _ h5))) fun u7 H7 s7 hu7 => ?_
      have s17 := s16.trans s7
      refine eq_rows (Same.sqt s17 f.hc) hu7 (f.rc.mono s17) (h8.mono s17) tx.c ?_
      exact q H7 s17
/-! ### check_number, _with_contacts, without_contact -/
def gInitB {α : Type} : List α → List α → List α
  | [x], [n, l, s, r, c] => [x, n, l, s, r, c]
  | us, _ => us
theorem kb_initB {f : Addr} {fd : FuncData} (F : Fun K "__init__" "Board.__init__" sBoardInit f fd) : KBn K fd ["self", "nodes", "lamps", "switches", "relays", "contacts"] 1 ["nodes", "lamps", "switches", "relays", "contacts"] gInitB gInitB := by
  obtain ⟨oc, od, kV, doc, pm, an, cdv, ct, osl, rfl, lk, hcd⟩ := F.ex
  refine ⟨fun s us ws _ h1 h2 => ?_, fun {vs us zs ws} h1 h2 => ?_⟩
  · match us, h1, ws, h2 with
    | [_], _, [_, _, _, _, _], _ => exact .of_eq rfl
  · cases h1 with
    | nil => exact .nil
    | cons a1 r1 =>
      cases r1 with
      | cons a2 r2 => exact .cons a1 (.cons a2 r2)
      | nil =>
        cases h2 with
        | nil => exact .cons a1 .nil
        | cons b1 q1 =>
          cases q1 with
          | nil => exact .cons a1 .nil
          | cons b2 q2 =>
            cases q2 with
            | nil => exact .cons a1 .nil
            | cons b3 q3 =>
              cases q3 with
              | nil => exact .cons a1 .nil
              | cons b4 q4 =>
                cases q4 with
                | nil => exact .cons a1 .nil
                | cons b5 q5 =>
                  cases q5 with
                  | nil => exact .cons a1 (.cons b1 (.cons b2 (.cons b3 (.cons b4 (.cons b5 .nil)))))
                  | cons _ _ => exact .cons a1 .nil
def spChkNum : Sp := fun vs H Q _ => ∃ n m : Int, vs = [.int n, .int m] ∧ 0 ≤ n ∧ n < m ∧ Q .non H
theorem scChkNum : FnScope ["number", "count"] ["number", "count"] (defScope sCheckNumber) := ⟨rfl, rfl, rfl, by decide +kernel, rfl, by decide +kernel, by decide +kernel⟩
theorem ok_chkNum {f : Addr} {fd : FuncData} {k : Nat} (F : Fun K "check_number" "check_number" sCheckNumber f fd) : FnOk P w K mg base CX0 (k + 1) f fd ["number", "count"] spChkNum := by
  refine F.ok scChkNum (fun vs H Q E h => ?_) (fun cdv A outer s H vs Q E hr h => ?_)
  · obtain ⟨n, m, rfl, _⟩ := h
    rfl
  · obtain ⟨n, m, rfl, h0, h1, q⟩ := h
    refine ⟨_, pss_one (ps_if (pt_not (pt_chain op_le op_lt pe_int (pv 0) (pv 1))) (pss_one ps_never) pss_nil), ?_⟩
    refine ⟨_, rfl, _, _, rfl, rfl, _, rfl, ?_⟩
    rw [decide_eq_true h0]
    refine iteT ?_
    refine ⟨_, rfl, _, _, rfl, rfl, _, rfl, ?_⟩
    rw [decide_eq_true h1]
    refine iteF ?_
    exact q
def Bd.with (b : Bd) (cs : List Ct) : Bd := ⟨b.nodes, b.switches, b.relays, b.lamps, cs⟩
theorem Bd.Ok.with {b : Bd} (ok : b.Ok) {cs : List Ct} (hl : cs.length ≤ 40) (hc : ∀ c ∈ cs, ctB b.nodes b.movers c = true) : (b.with cs).Ok := ⟨ok.nodes, ok.sw, ok.rl, ok.mv, ok.lp, ok.spR, ok.spL, hl, hc⟩
theorem Few.with {b : Bd} (few : Few b) {cs : List Ct} (hl : cs.length ≤ 1000) : Few (b.with cs) := ⟨few.n, few.s, few.r, few.l, hl, few.nz, few.sz, few.rz, few.lz⟩
def spWithC (K : PySem.W.Frag) (C : Addr) : Sp := fun vs H Q _ => ∃ (p ac : Addr) (b : Bd) (cs : List Ct) (xs : List V), vs = [.ref p, .ref ac] ∧ BoardAt K C H p b ∧ Sq K H ac xs ∧ RowsA K H xs (cs.map Ct.row) ∧ Few (b.with cs) ∧ (b.with cs).Ok ∧
  ∀ H' q, Same H H' → H q = none → BoardAt K C H' q (b.with cs) → Q (.ref q) H'
theorem scWithC : FnScope ["self", "contacts"] ["self", "contacts"] (defScope sBoardWithContacts) := ⟨rfl, rfl, rfl, by decide +kernel, rfl, by decide +kernel, by decide +kernel⟩
theorem ok_withC {f fI C sp sg : Addr} {mc : Value} {fd fdI : FuncData} {k : Nat} (F : Fun K "_with_contacts" "Board._with_contacts" sBoardWithContacts f fd) (T : BTxt K mg C mc sp sg) (M : Mk K C fI) (FI : Fun K "__init__" "Board.__init__" sBoardInit fI fdI)
    (GI : FnOk P w K mg base CX0 (k + 4) fI fdI ["self", "nodes", "lamps", "switches", "relays", "contacts"] (spInit K C)) : FnOk P w K mg base CX0 (k + 6) f fd ["self", "contacts"] (spWithC K C) := by
  have KB := kb_initB FI
  refine F.ok scWithC (fun vs H Q E h => ?_) (fun cdv A outer s H vs Q E hr h => ?_)
  · obtain ⟨p, ac, b, cs, xs, rfl, _⟩ := h
    rfl
  · obtain ⟨p, ac, b, cs, xs, rfl, hB, hac, hxs, few, ok, q⟩ := h
    obtain ⟨dx, fs, tn, ts, tr, tl, tc, tm, yr, yl, yc, hp, f, _⟩ := hB
    refine ⟨_, pss_one (ps_ret (pe_makeK0 M GI hr rfl T.mgB KB pass0 (pk_cons (pe_fld (pv 0) rfl) (pk_cons (pe_fld (pv 0) rfl) (pk_cons (pe_fld (pv 0) rfl) (pk_cons (pe_fld (pv 0) rfl) (pk_cons (pv 1) pk_nil))))))), ?_⟩
    refine ⟨_, rfl, p, C, dx, _, _, rfl, hp, T.cl, T.nN, f.ln, _, rfl, p, C, dx, _, _, rfl, hp, T.cl, T.nL, f.ll, _, rfl, p, C, dx, _, _, rfl, hp, T.cl, T.nS, f.ls, _, rfl, p, C, dx, _, _, rfl, hp, T.cl, T.nR, f.lr, _, rfl, rfl, rfl, fun x dx2 nx ndx nex => ?_⟩
    have gv : Given K H (b.with cs) tn tl ts tr ac := ⟨.inr f.hn, .inr f.hs, ⟨_, .inr f.hl, RowsA.of f.rl⟩, ⟨_, .inr f.hr, RowsA.of f.rr⟩, ⟨_, hac, hxs⟩⟩
    exact ⟨x, dx2, H, tn, tl, ts, tr, ac, b.with cs, rfl, upd_same, nx, same_mut (same_upd ndx) nx, gv, few, ok, fun H' s' hB' => ⟨rfl, q H' x s' nx hB'⟩⟩
def spWithout (K : PySem.W.Frag) (C : Addr) : Sp := fun vs H Q _ => ∃ (p : Addr) (b : Bd) (i : Nat), vs = [.ref p, .int i] ∧ BoardAt K C H p b ∧ Few b ∧ b.Ok ∧ i < b.contacts.length ∧
  ∀ H' q, Same H H' → H q = none → BoardAt K C H' q (b.with (b.contacts.take i ++ b.contacts.drop (i + 1))) → Q (.ref q) H'
theorem scWithout : FnScope ["self", "number"] ["self", "number"] (defScope sBoardWithoutContact) := ⟨rfl, rfl, rfl, by decide +kernel, rfl, by decide +kernel, by decide +kernel⟩
@[irreducible] def rSlI (K : PySem.W.Frag) : V → Option Int → Option Int → Hp → VK → Prop := rSlA K
theorem sl_tupI {X : Cx} : SlR X (rSlI X.K) := by
  unfold rSlI
  exact sl_tupA
theorem cutT {K : PySem.W.Frag} {a : Addr} {xs : List V} {lo hi : Option Int} {H : Hp} {Q : VK} (h : SqT K H a xs) (q : ∀ p H', Same H H' → SqT K H' p (cutV xs lo hi) → Q (.ref p) H') : rSlI K (.ref a) lo hi H Q := by
  unfold rSlI
  refine ⟨a, xs, rfl, h, fun ⟨e1, e2⟩ => q a H (Same.refl H) ?_, fun _ p np => q p _ (same_upd np) (st upd_same)⟩
  unfold cutV
  rw [e1, e2, List.drop_zero, Nat.sub_zero, List.take_length]
  exact h
theorem ok_without {f fW fN C sp sg : Addr} {mc : Value} {fd fdW fdN : FuncData} {k : Nat} (F : Fun K "without_contact" "Board.without_contact" sBoardWithoutContact f fd) (T : BTxt K mg C mc sp sg)
    (FN : Fun K "check_number" "check_number" sCheckNumber fN fdN) (bN : Binds K fdN ["number", "count"] []) (gN : mg "check_number" = some (.ref fN))
    (FW : Fun K "_with_contacts" "Board._with_contacts" sBoardWithContacts fW fdW) (bW : Binds K fdW ["self", "contacts"] []) (mW : Meth K C "_with_contacts" fW) (GW : FnOk P w K mg base CX0 (k + 6) fW fdW ["self", "contacts"] (spWithC K C)) :
    FnOk P w K mg base CX0 (k + 7) f fd ["self", "number"] (spWithout K C) := by
  have GN : FnOk P w K mg base CX0 (k + 1) fN fdN ["number", "count"] spChkNum := ok_chkNum FN
  refine F.ok scWithout (fun vs H Q E h => ?_) (fun cdv A outer s H vs Q E hr h => ?_)
  · obtain ⟨p, b, i, rfl, _⟩ := h
    rfl
  · obtain ⟨p, b, i, rfl, hB, few, ok, hi, q⟩ := h
    obtain ⟨dx, fs, tn, ts, tr, tl, tc, tm, yr, yl, yc, hp, f, r1, r2, only⟩ := id hB
    have hr1 : Room (k + 1) _ := hr.mono (by omega)
    refine ⟨_, pss_cons (ps_expr (pe_call GN hr1 (by rfl) gN FN.kp bN .nil pass0 (pa_cons (pv 1) (pa_cons (pe_callB call_len_seq (by rfl) T.len PySem.boot_len (pa_cons (pe_fld (pv 0) rfl) pa_nil)) pa_nil))))
      (pss_one (ps_ret (pe_meth (pv 0) T.cl mW GW hr bW .nil pass0 (pa_cons (pe_op op_catA (pe_slice sl_tupI (pe_fld (pv 0) rfl) po_none (po_some (pv 1))) (pe_slice sl_tupI (pe_fld (pv 0) rfl) (po_some (pe_op op_add (pv 1) pe_int)) po_none)) pa_nil)))), ?_⟩
    have lc := f.rc.len
    rw [List.length_map] at lc
    have c40 := ok.ct
    refine ⟨_, rfl, _, rfl, p, C, dx, _, _, rfl, hp, T.cl, T.nC, f.lc, tc, _, rfl, .inr f.hc, _, _, rfl, by omega, by omega, ?_⟩
    refine ⟨_, rfl, p, dx, fs, rfl, hp, only _ (by decide +kernel), _, rfl, p, C, dx, _, _, rfl, hp, T.cl, T.nC, f.lc, _, rfl, (i : Int), rfl, ?_⟩
    refine cutT f.hc fun t1 H1 s1 h1 => ?_
    rw [cut_list] at h1
    refine ⟨_, rfl, p, C, dx, _, _, rfl, s1 _ _ hp, T.cl, T.nC, f.lc, _, rfl, _, _, rfl, rfl, (i : Int) + 1, rfl, ?_⟩
    refine cutT (Same.sqt s1 f.hc) fun t2 H2 s2 h2 => ?_
    rw [show ((i : Int) + 1) = ((i + 1 : Nat) : Int) by omega, cut_drop_list] at h2
    refine cat_any (Same.sqt s2 h1) h2 (by rw [List.length_take, List.length_drop]; omega) fun t3 H3 s3 h3 => ?_
    have s13 := (s1.trans s2).trans s3
    have rows : Rows K H3 (yc.take i ++ yc.drop (i + 1)) ((b.contacts.take i ++ b.contacts.drop (i + 1)).map Ct.row) := by
      have e1 := (f.rc.mono s13).take i
      have e2 := (f.rc.mono s13).drop (i + 1)
      rw [← List.map_take] at e1
      rw [← List.map_drop] at e2
      rw [List.map_append]
      exact e1.app e2
    have ll : (b.contacts.take i ++ b.contacts.drop (i + 1)).length ≤ 40 := by
      rw [List.length_append, List.length_take, List.length_drop]
      omega
    refine ⟨p, t3, b, _, _, rfl, hB.mono s13, .inr h3, RowsA.of rows, few.with (by omega), ok.with ll fun c hc => ?_, fun H4 q4 s4 n4 hB4 => q H4 q4 (s13.trans s4) (s13.free n4) hB4⟩
    rcases List.mem_append.mp hc with h | h
    · exact ok.cts c (List.mem_of_mem_take h)
    · exact ok.cts c (List.mem_of_mem_drop h)
/-! ### lines of words -/
theorem str_assoc (a b c : Str) : a ++ b ++ c = a ++ (b ++ c) := str_ext (by rw [app_tl, app_tl, app_tl, app_tl, List.append_assoc])
def glueW (x : Str) (ys : List Str) : Str := ys.foldl (fun a y => a ++ " " ++ y) x
theorem glueW_app (a b : Str) : ∀ ys : List Str, glueW (a ++ b) ys = a ++ glueW b ys
  | [] => rfl
  | y :: ys => by
    show glueW (a ++ b ++ " " ++ y) ys = a ++ glueW (b ++ " " ++ y) ys
    rw [str_assoc a b, str_assoc a (b ++ " "), glueW_app a _ ys]
theorem join_glue : ∀ (x : Str) (ys : List Str), Str.join " " (x :: ys) = glueW x ys
  | x, [] => rfl
  | x, y :: ys => by
    show x ++ " " ++ Str.join " " (y :: ys) = glueW (x ++ " " ++ y) ys
    rw [join_glue y ys, glueW_app]
theorem glueW_snoc (x : Str) (ys : List Str) (y : Str) : glueW x (ys ++ [y]) = glueW x ys ++ " " ++ y := by
  unfold glueW
  rw [List.foldl_append]
  rfl
theorem sp_len : (" " : Str).length = 1 := by decide +kernel
theorem glueW_len (x : Str) (c : Nat) : ∀ ys : List Str, (∀ y ∈ ys, y.length ≤ c) → (glueW x ys).length ≤ x.length + (c + 1) * ys.length := by
  intro ys
  induction ys generalizing x with
  | nil => intro _; exact Nat.le_refl _
  | cons y ys ih =>
    intro h
    have h1 := ih (x ++ " " ++ y) fun z hz => h z (List.mem_cons_of_mem _ hz)
    have h2 := h y List.mem_cons_self
    rw [app_len, app_len, sp_len] at h1
    show (glueW (x ++ " " ++ y) ys).length ≤ _
    rw [List.length_cons, Nat.mul_succ]
    omega
theorem sum_le {ys : List Str} {c : Nat} (h : ∀ y ∈ ys, y.length ≤ c) : (ys.map (·.length)).sum ≤ c * ys.length := by
  induction ys with
  | nil => exact Nat.le_refl _
  | cons y ys ih =>
    rw [List.map_cons, List.sum_cons, List.length_cons, Nat.mul_succ]
    have := ih fun z hz => h z (List.mem_cons_of_mem _ hz)
    have := h y List.mem_cons_self
    omega
def mvS : Option Str → Str
  | none => "-"
  | some m => m
def lineR (w : Str) (r : Sp3) : List Str := [w, r.nm, r.one, r.oth]
def lineC (c : Ct) : List Str := ["contact", c.one, c.oth, mvS c.mv, c.whn, c.way]
def wordsOf (b : Bd) : List (List Str) := ("nodes" :: b.nodes) :: ("switches" :: b.switches) :: (b.relays.map (lineR "relay") ++ (b.lamps.map (lineR "lamp") ++ b.contacts.map lineC))
def linesOf (b : Bd) : List Str := (wordsOf b).map (Str.join " ")
/-- lists of texts, none of them the list at o -/
def RowL (K : PySem.W.Frag) (H : Hp) (o : Addr) : List V → List (List Str) → Prop
  | [], [] => True
  | v :: xs, r :: rs => (∃ t, v = .ref t ∧ t ≠ o ∧ SqL K H t (r.map V.str)) ∧ RowL K H o xs rs
  | _, _ => False
theorem sql_upd {K : PySem.W.Frag} {H : Hp} {t o : Addr} {xs : List V} {ho : HO} (ne : t ≠ o) (h : SqL K H t xs) : SqL K (upd H o ho) t xs := by
  rcases h with (h | ⟨u, h⟩) | h
  · exact .inl (.inl (by rw [upd_ne ne]; exact h))
  · exact .inl (.inr ⟨u, by rw [upd_ne ne]; exact h⟩)
  · exact .inr h
section
variable {K : PySem.W.Frag} {H H' : Hp} {o : Addr}
theorem RowL.mono (s : Same H H') : ∀ {xs : List V} {rs : List (List Str)}, RowL K H o xs rs → RowL K H' o xs rs
  | [], [], _ => True.intro
  | _ :: _, _ :: _, ⟨⟨t, e, n, h⟩, r⟩ => ⟨⟨t, e, n, s.seq h⟩, r.mono s⟩
theorem RowL.upd {ho : HO} : ∀ {xs : List V} {rs : List (List Str)}, RowL K H o xs rs → RowL K (L2.upd H o ho) o xs rs
  | [], [], _ => True.intro
  | _ :: _, _ :: _, ⟨⟨t, e, n, h⟩, r⟩ => ⟨⟨t, e, n, sql_upd n h⟩, r.upd⟩
theorem RowL.len : ∀ {xs : List V} {rs : List (List Str)}, RowL K H o xs rs → xs.length = rs.length
  | [], [], _ => rfl
  | _ :: _, _ :: _, ⟨_, r⟩ => congrArg (· + 1) r.len
theorem RowL.snoc {t : Addr} {w : List Str} (n : t ≠ o) (h : SqL K H t (w.map V.str)) : ∀ {xs : List V} {rs : List (List Str)}, RowL K H o xs rs → RowL K H o (xs ++ [.ref t]) (rs ++ [w])
  | [], [], _ => ⟨⟨t, rfl, n, h⟩, True.intro⟩
  | _ :: _, _ :: _, ⟨e, r⟩ => ⟨e, r.snoc n h⟩
theorem RowL.at : ∀ {xs : List V} {rs : List (List Str)} {i : Nat} {v : V}, RowL K H o xs rs → xs[i]? = some v → ∃ t r, v = .ref t ∧ SqL K H t (r.map V.str) ∧ rs[i]? = some r
  | [], [], _, _, _, h => by simp at h
  | _ :: _, r :: _, 0, _, ⟨⟨t, e, _, h⟩, _⟩, hi => ⟨t, r, by rw [← Option.some.inj hi]; exact e, h, rfl⟩
  | _ :: _, _ :: _, i + 1, _, ⟨_, r⟩, hi => RowL.at (i := i) r hi
end
/-- how long the words of a board are -/
structure Short (b : Bd) : Prop where
  n : ∀ z ∈ b.nodes, z.length ≤ 12
  s : ∀ z ∈ b.switches, z.length ≤ 12
  r : ∀ r ∈ b.relays, r.nm.length ≤ 12 ∧ r.one.length ≤ 12 ∧ r.oth.length ≤ 12
  l : ∀ r ∈ b.lamps, r.nm.length ≤ 12 ∧ r.one.length ≤ 12 ∧ r.oth.length ≤ 12
  c : ∀ c ∈ b.contacts, c.one.length ≤ 12 ∧ c.oth.length ≤ 12 ∧ (mvS c.mv).length ≤ 12 ∧ c.whn.length ≤ 12 ∧ c.way.length ≤ 12
  ln : b.nodes.length ≤ 16
  ls : b.switches.length ≤ 6
  lr : b.relays.length ≤ 8
  ll : b.lamps.length ≤ 8
  lc : b.contacts.length ≤ 40
theorem whn_len {z : Str} (h : z ∈ [makeS, breakS]) : z.length ≤ 12 := by
  have : ∀ y ∈ [makeS, breakS], y.length ≤ 12 := by decide +kernel
  exact this z h
theorem way_len {z : Str} (h : z ∈ [bothS, forwardS]) : z.length ≤ 12 := by
  have : ∀ y ∈ [bothS, forwardS], y.length ≤ 12 := by decide +kernel
  exact this z h
theorem Bd.Ok.short {b : Bd} (ok : b.Ok) : Short b := by
  have hn := areNm_names ok.nodes
  have hm := areNm_names ok.mv
  have hl := areNm_names ok.lp
  have row3 : ∀ r : Sp3, spanB b.nodes r = true → r.nm.length ≤ 12 ∧ r.one.length ≤ 12 ∧ r.oth.length ≤ 12 := fun r hr => by
    have h := span_nm hr
    exact ⟨h.1.2.1, (hn.1 _ h.2.1).2.1, (hn.1 _ h.2.2.1).2.1⟩
  refine ⟨fun z hz => (hn.1 z hz).2.1, fun z hz => (hm.1 z (List.mem_append.mpr (.inl hz))).2.1, fun r hr => row3 r (ok.spR r hr), fun r hr => row3 r (ok.spL r hr), fun c hc => ?_, hn.2.2.2, ok.sw, ok.rl, by have := hl.2.2.2; rwa [List.length_map] at this, ok.ct⟩
  have h := ctB_out (ok.cts c hc)
  refine ⟨(hn.1 _ h.1).2.1, (hn.1 _ h.2.1).2.1, ?_, ?_, way_len h.2.2.2.1⟩
  · cases em : c.mv with
    | none => exact (by decide +kernel : ("-" : Str).length ≤ 12)
    | some m =>
      have h5 := h.2.2.2.2
      rw [em] at h5
      exact (hm.1 m h5.1).2.1
  · cases em : c.mv with
    | none =>
      have h5 := h.2.2.2.2
      rw [em] at h5
      exact whn_len (by rw [show c.whn = makeS from h5]; exact List.mem_cons_self)
    | some m =>
      have h5 := h.2.2.2.2
      rw [em] at h5
      exact whn_len h5.2
theorem words_short {b : Bd} (s : Short b) : (∀ ws ∈ wordsOf b, (∀ z ∈ ws, z.length ≤ 12) ∧ ws.length ≤ 17 ∧ ws ≠ []) ∧ (wordsOf b).length ≤ 58 := by
  have k1 : ("nodes" : Str).length ≤ 12 ∧ ("switches" : Str).length ≤ 12 ∧ ("relay" : Str).length ≤ 12 ∧ ("lamp" : Str).length ≤ 12 ∧ ("contact" : Str).length ≤ 12 := by decide +kernel
  obtain ⟨a1, a2, a3, a4, a5⟩ := k1
  have := s.ln
  have := s.ls
  have := s.lr
  have := s.ll
  have := s.lc
  refine ⟨fun ws hw => ?_, ?_⟩
  · unfold wordsOf at hw
    rcases List.mem_cons.mp hw with e | hw
    · subst e
      refine ⟨fun z hz => ?_, by rw [List.length_cons]; omega, by simp⟩
      rcases List.mem_cons.mp hz with e | hz
      · rw [e]; exact a1
      · exact s.n z hz
    rcases List.mem_cons.mp hw with e | hw
    · subst e
      refine ⟨fun z hz => ?_, by rw [List.length_cons]; omega, by simp⟩
      rcases List.mem_cons.mp hz with e | hz
      · rw [e]; exact a2
      · exact s.s z hz
    rcases List.mem_append.mp hw with hw | hw
    · obtain ⟨r, hr, rfl⟩ := List.mem_map.mp hw
      refine ⟨fun z hz => ?_, by show 4 ≤ 17; decide, by simp [lineR]⟩
      have h := s.r r hr
      have : z = "relay" ∨ z = r.nm ∨ z = r.one ∨ z = r.oth := by simpa [lineR] using hz
      rcases this with e | e | e | e <;> rw [e]
      · exact a3
      · exact h.1
      · exact h.2.1
      · exact h.2.2
    rcases List.mem_append.mp hw with hw | hw
    · obtain ⟨r, hr, rfl⟩ := List.mem_map.mp hw
      refine ⟨fun z hz => ?_, by show 4 ≤ 17; decide, by simp [lineR]⟩
      have h := s.l r hr
      have : z = "lamp" ∨ z = r.nm ∨ z = r.one ∨ z = r.oth := by simpa [lineR] using hz
      rcases this with e | e | e | e <;> rw [e]
      · exact a4
      · exact h.1
      · exact h.2.1
      · exact h.2.2
    · obtain ⟨c, hc, rfl⟩ := List.mem_map.mp hw
      refine ⟨fun z hz => ?_, by show 6 ≤ 17; decide, by simp [lineC]⟩
      have h := s.c c hc
      have : z = "contact" ∨ z = c.one ∨ z = c.oth ∨ z = mvS c.mv ∨ z = c.whn ∨ z = c.way := by simpa [lineC] using hz
      rcases this with e | e | e | e | e | e <;> rw [e]
      · exact a5
      · exact h.1
      · exact h.2.1
      · exact h.2.2.1
      · exact h.2.2.2.1
      · exact h.2.2.2.2
  · unfold wordsOf
    rw [List.length_cons, List.length_cons, List.length_append, List.length_append, List.length_map, List.length_map, List.length_map]
    omega
theorem lines_short {b : Bd} (s : Short b) : (∀ z ∈ linesOf b, z.length ≤ 300) ∧ (linesOf b).length ≤ 58 := by
  have h := words_short s
  refine ⟨fun z hz => ?_, by unfold linesOf; rw [List.length_map]; exact h.2⟩
  obtain ⟨ws, hw, rfl⟩ := List.mem_map.mp hz
  obtain ⟨h1, h2, h3⟩ := h.1 ws hw
  cases ws with
  | nil => exact absurd rfl h3
  | cons x ys =>
    rw [join_glue]
    have := glueW_len x 12 ys fun y hy => h1 y (List.mem_cons_of_mem _ hy)
    have := h1 x List.mem_cons_self
    rw [List.length_cons] at h2
    omega
/-! ### format_board -/
def w0 (b : Bd) : List (List Str) := ["nodes" :: b.nodes, "switches" :: b.switches]
theorem w0_len (b : Bd) : (w0 b).length = 2 := rfl
def spFormat (K : PySem.W.Frag) (C : Addr) : Sp := fun vs H Q _ => ∃ (p : Addr) (b : Bd), vs = [.ref p] ∧ BoardAt K C H p b ∧ Short b ∧ ∀ H', Same H H' → Q (.str (Str.join "\n" (linesOf b))) H'
theorem scFormat : FnScope ["board", "lines", "relay", "lamp", "one", "other", "mover", "when", "way", "words"] ["board"] (defScope sFormatBoard) := ⟨rfl, rfl, rfl, by decide +kernel, rfl, by decide +kernel, by decide +kernel⟩
theorem nl_len : ("\n" : Str).length = 1 := by decide +kernel
theorem ok_format {f C sp sg : Addr} {mc : Value} {fd : FuncData} {k : Nat} {tw : Tok} (F : Fun K "format_board" "format_board" sFormatBoard f fd) (T : BTxt K mg C mc sp sg) (gW : mg "WIRE" = some (.str "-" tw)) : FnOk P w K mg base CX0 (k + 1) f fd ["board"] (spFormat K C) := by
  refine F.ok scFormat (fun vs H Q E h => ?_) (fun cdv A outer s H vs Q E hr h => ?_)
  · obtain ⟨p, b, rfl, _⟩ := h
    rfl
  · obtain ⟨p, b, rfl, hB, sh, q⟩ := h
    obtain ⟨dx, fs, tn, ts, tr, tl, tc, tm, yr, yl, yc, hp, f, _⟩ := hB
    refine ⟨_, pss_cons (ps_set (i := 1) scFormat.nd rfl (.inl rfl) (pe_lst (pa_cons (pe_lst (pa_cons pe_str (StX.pa_star (pe_fld (pv 0) rfl) pa_nil))) (pa_cons (pe_lst (pa_cons pe_str (StX.pa_star (pe_fld (pv 0) rfl) pa_nil))) pa_nil))))
      (pss_cons (ps_for PassesOwn.never rfl (pi_tup (pe_fld (pv 0) rfl)) (pg_name (i := 2) scFormat.nd rfl (.inl rfl))
        (pss_one (ps_expr (pe_bm PySem.F.plainAttrs_list PySem.F.slot_list_append PySem.F.type_list_append mt_append (pv 1) (pa_cons (pe_lst (pa_cons pe_str (StX.pa_star (pv 2) pa_nil))) pa_nil)))))
      (pss_cons (ps_for PassesOwn.never rfl (pi_tup (pe_fld (pv 0) rfl)) (pg_name (i := 3) scFormat.nd rfl (.inl rfl))
        (pss_one (ps_expr (pe_bm PySem.F.plainAttrs_list PySem.F.slot_list_append PySem.F.type_list_append mt_append (pv 1) (pa_cons (pe_lst (pa_cons pe_str (StX.pa_star (pv 3) pa_nil))) pa_nil)))))
      (pss_cons (ps_for PassesOwn.never rfl (pi_tup (pe_fld (pv 0) rfl)) (pg_tup rfl (pgs_cons (pg_name (i := 4) scFormat.nd rfl (.inl rfl)) (pgs_cons (pg_name (i := 5) scFormat.nd rfl (.inl rfl)) (pgs_cons (pg_name (i := 6) scFormat.nd rfl (.inl rfl)) (pgs_cons (pg_name (i := 7) scFormat.nd rfl (.inl rfl)) (pgs_cons (pg_name (i := 8) scFormat.nd rfl (.inl rfl)) pgs_nil))))))
        (pss_one (ps_expr (pe_bm PySem.F.plainAttrs_list PySem.F.slot_list_append PySem.F.type_list_append mt_append (pv 1) (pa_cons (pe_lst (pa_cons pe_str (pa_cons (pv 4) (pa_cons (pv 5) (pa_cons (pe_ifExp (pt_cmpR op_isN (pv 6) pe_non (nomark _)) (pe_glob (v := .str "-") rfl gW ⟨_, rfl⟩) (pv 6)) (pa_cons (pv 7) (pa_cons (pv 8) pa_nil))))))) pa_nil)))))
      (pss_one (ps_ret (pe_bm PySem.F.plainAttrs_str PySem.F.slot_str_join PySem.F.type_str_join mt_join pe_str (pa_cons
        (pe_lc (own := [("words", 9)]) (g := gName 9) (tt := tYes) rfl scFormat.nd (pi_list (pv 1)) (blkOk_by (N := ["board", "lines", "relay", "lamp", "one", "other", "mover", "when", "way", "words"]) (sc := defScope sFormatBoard) (by decide +kernel)) (fun _ _ _ _ _ => pg_name (i := 9) scFormat.nd rfl (Or.inl rfl)) (fun _ _ _ _ _ => pts_nil)
          (te := tBM K "str" (fun x xs H Q => ∃ a p, ∃ ys : List Str, x = .str a ∧ xs = [.ref p] ∧ (SqL K H p (ys.map V.str) ∨ SqT K H p (ys.map V.str)) ∧ (ys.map (·.length)).sum + ys.length * a.length ≤ 16777216 ∧ Q (.str (Txt.join a ys)) H) (tC (.str " ")) (tCons (tVar 9) tNil))
          (fun _ _ _ _ _ => pe_bm PySem.F.plainAttrs_str PySem.F.slot_str_join PySem.F.type_str_join mt_join pe_str (pa_cons (pv 9) pa_nil))) pa_nil))))))), ?_⟩
    have ln := sh.ln
    have ls := sh.ls
    have lr := sh.lr
    have ll := sh.ll
    have lc := sh.lc
    have yrl := f.rr.len
    have yll := f.rl.len
    have ycl := f.rc.len
    rw [List.length_map] at yrl yll ycl
    -- the first two lines
    refine ⟨_, rfl, p, C, dx, _, _, rfl, hp, T.cl, T.nN, f.ln, tn, _, rfl, .inl f.hn, szl (by simp; omega), fun o1 n1 => ?_⟩
    have s1 := same_upd (o := .lst (V.str "nodes" :: (b.nodes.map V.str ++ []))) n1
    refine ⟨_, rfl, p, C, dx, _, _, rfl, s1 _ _ hp, T.cl, T.nS, f.ls, ts, _, rfl, .inl (Same.sqt s1 f.hs), szl (by simp; omega), fun o2 n2 => ?_⟩
    have s2 := same_upd (o := .lst (V.str "switches" :: (b.switches.map V.str ++ []))) n2
    have s12 := s1.trans s2
    refine ⟨by show 2 ≤ sizeLine; decide, fun ol nl => ?_⟩
    have s3 := same_upd (o := .lst [.ref o1, .ref o2]) nl
    have s13 := s12.trans s3
    have no : H ol = none := s12.free nl
    have d1 : o1 ≠ ol := ne_of_none (s2 _ _ upd_same) nl
    have d2 : o2 ≠ ol := ne_of_none upd_same nl
    have e1 : (V.str "nodes" :: (b.nodes.map V.str ++ [])) = ("nodes" :: b.nodes : List Str).map V.str := by rw [List.append_nil]; rfl
    have e2 : (V.str "switches" :: (b.switches.map V.str ++ [])) = ("switches" :: b.switches : List Str).map V.str := by rw [List.append_nil]; rfl
    have R0 : RowL K (upd (upd (upd H o1 (.lst (V.str "nodes" :: (b.nodes.map V.str ++ [])))) o2 (.lst (V.str "switches" :: (b.switches.map V.str ++ [])))) ol (.lst [.ref o1, .ref o2])) ol [.ref o1, .ref o2] (w0 b) := ⟨⟨o1, rfl, d1, sq (by rw [← e1]; exact s3 _ _ (s2 _ _ upd_same))⟩, ⟨o2, rfl, d2, sq (by rw [← e2]; exact s3 _ _ upd_same)⟩, True.intro⟩
    have hol : (upd (upd (upd H o1 (.lst (V.str "nodes" :: (b.nodes.map V.str ++ [])))) o2 (.lst (V.str "switches" :: (b.switches.map V.str ++ [])))) ol (.lst [.ref o1, .ref o2])) ol = some (.lst [.ref o1, .ref o2]) := upd_same
    generalize (upd (upd (upd H o1 (.lst (V.str "nodes" :: (b.nodes.map V.str ++ [])))) o2 (.lst (V.str "switches" :: (b.switches.map V.str ++ [])))) ol (.lst [.ref o1, .ref o2])) = H3 at *
    -- the relays
    refine ⟨_, rfl, p, C, dx, _, _, rfl, s13 _ _ hp, T.cl, T.nR, f.lr, tr, rfl, ⟨_, Same.sqt s13 f.hr⟩, for_tup (K := K) (a := tr) (xs := yr) (fun i σ G => ∃ (z2 : Option V) (xs : List V), σ = [some (.ref p), some (.ref ol), z2, none, none, none, none, none, none, none] ∧ Same H G ∧ G ol = some (.lst xs) ∧ RowL K G ol xs (w0 b ++ (b.relays.take i).map (lineR "relay")))
      ⟨none, _, rfl, s13, hol, R0⟩ (fun _ _ _ _ ⟨_, _, _, sm, _⟩ => Same.sqt sm f.hr) ?_ ?_⟩
    · rintro i v σ G hi ⟨z2, xs, rfl, sm, ho, hR⟩
      have hil := (List.getElem?_eq_some_iff.mp hi).1
      obtain ⟨t, rw_, rfl, hrow, hri⟩ := f.rr.at hi
      rw [List.getElem?_map] at hri
      obtain ⟨r, hr1, rfl⟩ := Option.map_eq_some_iff.mp hri
      refine ⟨_, rfl, .inl ⟨rfl, _, sq ho⟩, _, rfl, t, _, rfl, .inl (Same.sqt sm hrow), by show 4 ≤ sizeLine; decide, fun o5 n5 => ?_⟩
      have s5 := same_upd (o := .lst (V.str "relay" :: (r.row ++ []))) n5
      have hl := hR.len
      rw [List.length_append, List.length_map, List.length_take] at hl
      refine ⟨ol, _, _, rfl, rfl, s5 _ _ ho, szlt (by rw [w0_len] at hl; omega), ?_⟩
      refine ⟨_, xs ++ [.ref o5], rfl, same_mut (sm.trans s5) no, upd_same, ?_⟩
      rw [List.take_add_one, hr1, List.map_append, ← List.append_assoc]
      exact RowL.snoc (K := K) (w := lineR "relay" r) (ne_of_none ho n5).symm (sql_upd (ne_of_none ho n5).symm (sq (upd_same (H := G) (a := o5) (o := .lst (V.str "relay" :: (r.row ++ []))))))  (hR.mono s5).upd
    rintro σ G ⟨z2, xs1, rfl, sm1, ho1, hR1⟩
    rw [yrl, List.take_length] at hR1
    -- the lamps
    refine ⟨_, rfl, p, C, dx, _, _, rfl, sm1 _ _ hp, T.cl, T.nL, f.ll, tl, rfl, ⟨_, Same.sqt sm1 f.hl⟩, for_tup (K := K) (a := tl) (xs := yl) (fun i σ G => ∃ (z3 : Option V) (xs : List V), σ = [some (.ref p), some (.ref ol), z2, z3, none, none, none, none, none, none] ∧ Same H G ∧ G ol = some (.lst xs) ∧ RowL K G ol xs (w0 b ++ b.relays.map (lineR "relay") ++ (b.lamps.take i).map (lineR "lamp")))
      ⟨none, _, rfl, sm1, ho1, by rw [List.take_zero, List.map_nil, List.append_nil]; exact hR1⟩ (fun _ _ _ _ ⟨_, _, _, sm, _⟩ => Same.sqt sm f.hl) ?_ ?_⟩
    · rintro i v σ G hi ⟨z3, xs, rfl, sm, ho, hR⟩
      have hil := (List.getElem?_eq_some_iff.mp hi).1
      obtain ⟨t, rw_, rfl, hrow, hri⟩ := f.rl.at hi
      rw [List.getElem?_map] at hri
      obtain ⟨r, hr1, rfl⟩ := Option.map_eq_some_iff.mp hri
      refine ⟨_, rfl, .inl ⟨rfl, _, sq ho⟩, _, rfl, t, _, rfl, .inl (Same.sqt sm hrow), by show 4 ≤ sizeLine; decide, fun o5 n5 => ?_⟩
      have s5 := same_upd (o := .lst (V.str "lamp" :: (r.row ++ []))) n5
      have hl := hR.len
      rw [List.length_append, List.length_append, List.length_map, List.length_map, List.length_take] at hl
      refine ⟨ol, _, _, rfl, rfl, s5 _ _ ho, szlt (by rw [w0_len] at hl; omega), ?_⟩
      refine ⟨_, xs ++ [.ref o5], rfl, same_mut (sm.trans s5) no, upd_same, ?_⟩
      rw [List.take_add_one, hr1, List.map_append, ← List.append_assoc]
      exact RowL.snoc (K := K) (w := lineR "lamp" r) (ne_of_none ho n5).symm (sql_upd (ne_of_none ho n5).symm (sq (upd_same (H := G) (a := o5) (o := .lst (V.str "lamp" :: (r.row ++ []))))))  (hR.mono s5).upd
    rintro σ G2 ⟨z3, xs2, rfl, sm2, ho2, hR2⟩
    rw [yll, List.take_length] at hR2
    -- the contacts
    refine ⟨_, rfl, p, C, dx, _, _, rfl, sm2 _ _ hp, T.cl, T.nC, f.lc, tc, rfl, ⟨_, Same.sqt sm2 f.hc⟩, for_tup (K := K) (a := tc) (xs := yc) (fun i σ G => ∃ (z4 z5 z6 z7 z8 : Option V) (xs : List V), σ = [some (.ref p), some (.ref ol), z2, z3, z4, z5, z6, z7, z8, none] ∧ Same H G ∧ G ol = some (.lst xs) ∧ RowL K G ol xs (w0 b ++ b.relays.map (lineR "relay") ++ b.lamps.map (lineR "lamp") ++ (b.contacts.take i).map lineC))
      ⟨none, none, none, none, none, _, rfl, sm2, ho2, by rw [List.take_zero, List.map_nil, List.append_nil]; exact hR2⟩ (fun _ _ _ _ ⟨_, _, _, _, _, _, _, sm, _⟩ => Same.sqt sm f.hc) ?_ ?_⟩
    · rintro i v σ G hi ⟨z4, z5, z6, z7, z8, xs, rfl, sm, ho, hR⟩
      have hil := (List.getElem?_eq_some_iff.mp hi).1
      obtain ⟨t, rw_, rfl, hrow, hri⟩ := f.rc.at hi
      rw [List.getElem?_map] at hri
      obtain ⟨c, hc1, rfl⟩ := Option.map_eq_some_iff.mp hri
      refine ⟨t, _, rfl, Same.sqt sm hrow, rfl, _, _, rfl, _, _, rfl, _, _, rfl, _, _, rfl, _, _, rfl, rfl, ?_⟩
      refine ⟨_, rfl, .inl ⟨rfl, _, sq ho⟩, _, rfl, _, rfl, _, rfl, rfl, _, rfl, ?_⟩
      have hl := hR.len
      rw [List.length_append, List.length_append, List.length_append, List.length_map, List.length_map, List.length_map, List.length_take] at hl
      have fin : ∀ o5, G o5 = none → ∃ l xs_1 y, V.ref ol = V.ref l ∧ [V.ref o5] = [y] ∧ (upd G o5 (.lst [.str "contact", .str c.one, .str c.oth, .str (mvS c.mv), .str c.whn, .str c.way])) l = some (.lst xs_1) ∧ xs_1.length < sizeLine ∧
          (∃ (z4 z5 z6 z7 z8 : Option V) (xs : List V), [some (.ref p), some (.ref ol), z2, z3, some (.str c.one), some (.str c.oth), some (mvV c.mv), some (.str c.whn), some (.str c.way), none] = [some (.ref p), some (.ref ol), z2, z3, z4, z5, z6, z7, z8, none] ∧
            Same H (upd (upd G o5 (.lst [.str "contact", .str c.one, .str c.oth, .str (mvS c.mv), .str c.whn, .str c.way])) l (.lst (xs_1 ++ [y]))) ∧ (upd (upd G o5 (.lst [.str "contact", .str c.one, .str c.oth, .str (mvS c.mv), .str c.whn, .str c.way])) l (.lst (xs_1 ++ [y]))) ol = some (.lst xs) ∧
            RowL K (upd (upd G o5 (.lst [.str "contact", .str c.one, .str c.oth, .str (mvS c.mv), .str c.whn, .str c.way])) l (.lst (xs_1 ++ [y]))) ol xs (w0 b ++ b.relays.map (lineR "relay") ++ b.lamps.map (lineR "lamp") ++ (b.contacts.take (i + 1)).map lineC)) := fun o5 n5 => by
        have s5 := same_upd (o := .lst [.str "contact", .str c.one, .str c.oth, .str (mvS c.mv), .str c.whn, .str c.way]) n5
        refine ⟨ol, _, _, rfl, rfl, s5 _ _ ho, szlt (by rw [w0_len] at hl; omega), ?_⟩
        refine ⟨_, _, _, _, _, xs ++ [.ref o5], rfl, same_mut (sm.trans s5) no, upd_same, ?_⟩
        rw [List.take_add_one, hc1, List.map_append, ← List.append_assoc]
        exact RowL.snoc (K := K) (w := lineC c) (ne_of_none ho n5).symm (sql_upd (ne_of_none ho n5).symm (sq upd_same)) (hR.mono s5).upd
      cases em : c.mv with
      | none =>
        rw [em] at fin
        rw [show decide (mvV none = V.non) = true from rfl]
        refine iteT ?_
        refine ⟨_, rfl, _, rfl, by show 6 ≤ sizeLine; decide, fun o5 n5 => ?_⟩
        exact fin o5 n5
      | some m =>
        rw [em] at fin
        rw [show decide (mvV (some m) = V.non) = false from decide_eq_false fun z => by cases z]
        refine iteF ?_
        refine ⟨_, rfl, _, rfl, _, rfl, by show 6 ≤ sizeLine; decide, fun o5 n5 => ?_⟩
        exact fin o5 n5
    rintro σ G3 ⟨z4, z5, z6, z7, z8, xs3, rfl, sm3, ho3, hR3⟩
    rw [ycl, List.take_length] at hR3
    have ew : w0 b ++ b.relays.map (lineR "relay") ++ b.lamps.map (lineR "lamp") ++ b.contacts.map lineC = wordsOf b := by
      unfold wordsOf w0
      simp only [List.append_assoc, List.cons_append, List.nil_append]
    rw [ew] at hR3
    obtain ⟨ws1, ws2⟩ := words_short sh
    obtain ⟨ls1, ls2⟩ := lines_short sh
    -- the text
    refine ⟨rfl, _, rfl, ol, rfl, ⟨_, sq ho3⟩, fun D nD => ?_⟩
    refine lc_list (K := K) (a := ol) (xs := xs3) (fun i G => Same G3 G ∧ G D = some (.lst (((linesOf b).take i).map V.str))) ⟨same_upd nD, upd_same⟩ (fun i G _ h => sq (h.1 _ _ ho3)) ?_ ?_
    · rintro i v G hi ⟨sm, hd⟩
      obtain ⟨t, ws, rfl, hws, hwi⟩ := hR3.at hi
      have hm := List.mem_of_getElem? hwi
      obtain ⟨w1, w2, w3⟩ := ws1 ws hm
      have hsum := sum_le w1
      refine ⟨rfl, ?_⟩
      refine yesT ?_
      refine ⟨rfl, _, rfl, _, t, ws, rfl, rfl, .inl (sm.seq hws), by rw [sp_len]; omega, _, hd, ?_, same_mut sm nD, ?_⟩
      · rw [List.length_map, List.length_take]
        exact szlt (by omega)
      · rw [upd_same, List.take_add_one, show (linesOf b)[i]? = some (Str.join " " ws) by unfold linesOf; rw [List.getElem?_map, hwi]; rfl, TL.join_eq, Option.toList_some, map_snoc]
    · rintro G ⟨sm, hd⟩
      have hl := hR3.len
      rw [hl, show (wordsOf b).length = (linesOf b).length by unfold linesOf; rw [List.length_map], List.take_length] at hd
      have hsum := sum_le ls1
      refine ⟨_, D, linesOf b, rfl, rfl, .inl (sq hd), by rw [nl_len]; omega, ?_⟩
      rw [TL.join_eq]
      exact q G (sm3.trans sm)
/-! ### _law_lines -/
def spLines (K : PySem.W.Frag) : Sp := fun vs H Q _ => ∃ (p : Addr) (b : Bd), vs = [.ref p] ∧ PartsAt K H p b ∧ Short b ∧ ∀ H' o, Same H H' → H o = none → H' o = some (.lst ((linesOf b).map V.str)) → Q (.ref o) H'
theorem scLines : FnScope ["parts", "lines", "node", "switch", "relay", "lamp", "contact", "mover"] ["parts"] (defScope sLawLines) := ⟨rfl, rfl, rfl, by decide +kernel, rfl, by decide +kernel, by decide +kernel⟩
def lR (w : Str) (r : Sp3) : Str := Str.join " " (lineR w r)
def lC (c : Ct) : Str := Str.join " " (lineC c)
theorem lR_eq (w : Str) (r : Sp3) : lR w r = w ++ " " ++ r.nm ++ " " ++ r.one ++ " " ++ r.oth := by
  unfold lR lineR
  rw [join_glue]
  rfl
theorem lC_eq (c : Ct) : lC c = "contact" ++ " " ++ c.one ++ " " ++ c.oth ++ " " ++ mvS c.mv ++ " " ++ c.whn ++ " " ++ c.way := by
  unfold lC lineC
  rw [join_glue]
  rfl
theorem relay_sp : ("relay " : Str) = "relay" ++ " " := by decide +kernel
theorem lamp_sp : ("lamp " : Str) = "lamp" ++ " " := by decide +kernel
theorem contact_sp : ("contact " : Str) = "contact" ++ " " := by decide +kernel
theorem lines_eq (b : Bd) : linesOf b = glueW "nodes" b.nodes :: glueW "switches" b.switches :: (b.relays.map (lR "relay") ++ (b.lamps.map (lR "lamp") ++ b.contacts.map lC)) := by
  unfold linesOf wordsOf
  rw [List.map_cons, List.map_cons, List.map_append, List.map_append, List.map_map, List.map_map, List.map_map, join_glue, join_glue]
  rfl
theorem ok_lines {f : Addr} {fd : FuncData} {k : Nat} (F : Fun K "_law_lines" "_law_lines" sLawLines f fd) : FnOk P w K mg base CX0 (k + 1) f fd ["parts"] (spLines K) := by
  refine F.ok scLines (fun vs H Q E h => ?_) (fun cdv A outer s H vs Q E hr h => ?_)
  · obtain ⟨p, b, rfl, _⟩ := h
    rfl
  · obtain ⟨p, b, rfl, hp, sh, q⟩ := h
    obtain ⟨n, sw, r, l, c, xr, xl, xc, p0, p1, p2, p3, p4, p5, p6, p7, p8⟩ := hp
    refine ⟨_, pss_cons (ps_set (i := 1) scLines.nd rfl (.inl rfl) (pe_lst (pa_cons pe_str (pa_cons pe_str pa_nil))))
      (pss_cons (ps_for PassesOwn.never rfl (pi_list (pe_ix ix_tup (pv 0) pe_int (fun _ _ => rfl))) (pg_name (i := 2) scLines.nd rfl (.inl rfl))
        (pss_one (ps_asg (pe_op op_add_str (pe_op op_add_str (pe_ix ix_list (pv 1) pe_int (fun _ _ => rfl)) pe_str) (pv 2)) (pg_sub (pv 1) pe_int set_list))))
      (pss_cons (ps_for PassesOwn.never rfl (pi_list (pe_ix ix_tup (pv 0) pe_int (fun _ _ => rfl))) (pg_name (i := 3) scLines.nd rfl (.inl rfl))
        (pss_one (ps_asg (pe_op op_add_str (pe_op op_add_str (pe_ix ix_list (pv 1) pe_int (fun _ _ => rfl)) pe_str) (pv 3)) (pg_sub (pv 1) pe_int set_list))))
      (pss_cons (ps_for PassesOwn.never rfl (pi_list (pe_ix ix_tup (pv 0) pe_int (fun _ _ => rfl))) (pg_name (i := 4) scLines.nd rfl (.inl rfl))
        (pss_one (ps_expr (pe_bm PySem.F.plainAttrs_list PySem.F.slot_list_append PySem.F.type_list_append mt_append (pv 1) (pa_cons (pe_op op_add_str (pe_op op_add_str (pe_op op_add_str (pe_op op_add_str (pe_op op_add_str pe_str (pe_ix ix_tup (pv 4) pe_int (fun _ _ => rfl))) pe_str) (pe_ix ix_tup (pv 4) pe_int (fun _ _ => rfl))) pe_str) (pe_ix ix_tup (pv 4) pe_int (fun _ _ => rfl))) pa_nil)))))
      (pss_cons (ps_for PassesOwn.never rfl (pi_list (pe_ix ix_tup (pv 0) pe_int (fun _ _ => rfl))) (pg_name (i := 5) scLines.nd rfl (.inl rfl))
        (pss_one (ps_expr (pe_bm PySem.F.plainAttrs_list PySem.F.slot_list_append PySem.F.type_list_append mt_append (pv 1) (pa_cons (pe_op op_add_str (pe_op op_add_str (pe_op op_add_str (pe_op op_add_str (pe_op op_add_str pe_str (pe_ix ix_tup (pv 5) pe_int (fun _ _ => rfl))) pe_str) (pe_ix ix_tup (pv 5) pe_int (fun _ _ => rfl))) pe_str) (pe_ix ix_tup (pv 5) pe_int (fun _ _ => rfl))) pa_nil)))))
      (pss_cons (ps_for PassesOwn.never rfl (pi_list (pe_ix ix_tup (pv 0) pe_int (fun _ _ => rfl))) (pg_name (i := 6) scLines.nd rfl (.inl rfl))
        (pss_cons (ps_set (i := 7) scLines.nd rfl (.inl rfl) (pe_ix ix_tup (pv 6) pe_int (fun _ _ => rfl)))
        (pss_cons (ps_if (pt_cmpR op_isN (pv 7) pe_non (nomark _)) (pss_one (ps_set (i := 7) scLines.nd rfl (.inl rfl) pe_str)) pss_nil)
        (pss_one (ps_expr (pe_bm PySem.F.plainAttrs_list PySem.F.slot_list_append PySem.F.type_list_append mt_append (pv 1) (pa_cons (pe_op op_add_str (pe_op op_add_str (pe_op op_add_str (pe_op op_add_str (pe_op op_add_str (pe_op op_add_str (pe_op op_add_str (pe_op op_add_str (pe_op op_add_str pe_str (pe_ix ix_tup (pv 6) pe_int (fun _ _ => rfl))) pe_str) (pe_ix ix_tup (pv 6) pe_int (fun _ _ => rfl))) pe_str) (pv 7)) pe_str) (pe_ix ix_tup (pv 6) pe_int (fun _ _ => rfl))) pe_str) (pe_ix ix_tup (pv 6) pe_int (fun _ _ => rfl))) pa_nil)))))))
      (pss_one (ps_ret (pv 1)))))))), ?_⟩
    have ln := sh.ln
    have ls := sh.ls
    have lr := sh.lr
    have ll := sh.ll
    have lc := sh.lc
    have yrl := p6.len
    have yll := p7.len
    have ycl := p8.len
    rw [List.length_map] at yrl yll ycl
    have l1 : ("nodes" : Str).length = 5 ∧ ("switches" : Str).length = 8 ∧ ("relay" : Str).length = 5 ∧ ("lamp" : Str).length = 4 ∧ ("contact" : Str).length = 7 ∧ ("-" : Str).length = 1 := by decide +kernel
    obtain ⟨k1, k2, k3, k4, k5, k6⟩ := l1
    refine ⟨by show 2 ≤ sizeLine; decide, fun ol nl => ?_⟩
    have s0 := same_upd (o := .lst [.str "nodes", .str "switches"]) nl
    -- the nodes
    refine ⟨_, rfl, p, _, 0, _, rfl, rfl, st (s0 _ _ p0), rfl, n, rfl, ⟨_, sq (s0 _ _ p1)⟩, for_list (K := K) (a := n) (xs := b.nodes.map V.str) (fun i σ G => ∃ z2 : Option V, σ = [some (.ref p), some (.ref ol), z2, none, none, none, none, none] ∧ Same H G ∧ G ol = some (.lst [.str (glueW "nodes" (b.nodes.take i)), .str "switches"]))
      ⟨none, rfl, s0, upd_same⟩ (fun _ _ _ _ ⟨_, _, sm, _⟩ => sq (sm _ _ p1)) ?_ ?_⟩
    · rintro i v σ G hi ⟨z2, rfl, sm, ho⟩
      rw [List.getElem?_map] at hi
      obtain ⟨z, hz, rfl⟩ := Option.map_eq_some_iff.mp hi
      have zl := sh.n z (List.mem_of_getElem? hz)
      have gl := glueW_len "nodes" 12 (b.nodes.take i) fun y hy => sh.n y (List.mem_of_mem_take hy)
      rw [List.length_take] at gl
      refine ⟨_, rfl, ol, _, 0, _, rfl, rfl, sq ho, rfl, _, _, rfl, rfl, szl (by rw [sp_len]; omega), _, rfl, _, _, rfl, rfl, szl (by rw [app_len, sp_len]; omega), _, rfl, ol, _, 0, 0, rfl, rfl, ho, rfl, ?_⟩
      refine ⟨_, rfl, same_mut sm nl, ?_⟩
      rw [upd_same, List.take_add_one, hz, Option.toList_some, glueW_snoc]
      rfl
    rintro σ G1 ⟨z2, rfl, sm1, ho1⟩
    rw [List.length_map, List.take_length] at ho1
    -- the switches
    refine ⟨_, rfl, p, _, 1, _, rfl, rfl, st (sm1 _ _ p0), rfl, sw, rfl, ⟨_, sq (sm1 _ _ p2)⟩, for_list (K := K) (a := sw) (xs := b.switches.map V.str) (fun i σ G => ∃ z3 : Option V, σ = [some (.ref p), some (.ref ol), z2, z3, none, none, none, none] ∧ Same H G ∧ G ol = some (.lst [.str (glueW "nodes" b.nodes), .str (glueW "switches" (b.switches.take i))]))
      ⟨none, rfl, sm1, ho1⟩ (fun _ _ _ _ ⟨_, _, sm, _⟩ => sq (sm _ _ p2)) ?_ ?_⟩
    · rintro i v σ G hi ⟨z3, rfl, sm, ho⟩
      rw [List.getElem?_map] at hi
      obtain ⟨z, hz, rfl⟩ := Option.map_eq_some_iff.mp hi
      have zl := sh.s z (List.mem_of_getElem? hz)
      have gl := glueW_len "switches" 12 (b.switches.take i) fun y hy => sh.s y (List.mem_of_mem_take hy)
      rw [List.length_take] at gl
      refine ⟨_, rfl, ol, _, 1, _, rfl, rfl, sq ho, rfl, _, _, rfl, rfl, szl (by rw [sp_len]; omega), _, rfl, _, _, rfl, rfl, szl (by rw [app_len, sp_len]; omega), _, rfl, ol, _, 1, 1, rfl, rfl, ho, rfl, ?_⟩
      refine ⟨_, rfl, same_mut sm nl, ?_⟩
      rw [upd_same, List.take_add_one, hz, Option.toList_some, glueW_snoc]
      rfl
    rintro σ G2 ⟨z3, rfl, sm2, ho2⟩
    rw [List.length_map, List.take_length] at ho2
    -- the relays
    refine ⟨_, rfl, p, _, 2, _, rfl, rfl, st (sm2 _ _ p0), rfl, r, rfl, ⟨_, sq (sm2 _ _ p3)⟩, for_list (K := K) (a := r) (xs := xr) (fun i σ G => ∃ z4 : Option V, σ = [some (.ref p), some (.ref ol), z2, z3, z4, none, none, none] ∧ Same H G ∧ G ol = some (.lst (([glueW "nodes" b.nodes, glueW "switches" b.switches] ++ (b.relays.take i).map (lR "relay")).map V.str)))
      ⟨none, rfl, sm2, ho2⟩ (fun _ _ _ _ ⟨_, _, sm, _⟩ => sq (sm _ _ p3)) ?_ ?_⟩
    · rintro i v σ G hi ⟨z4, rfl, sm, ho⟩
      have hil := (List.getElem?_eq_some_iff.mp hi).1
      obtain ⟨t, rw_, rfl, hrow, hri⟩ := p6.at hi
      rw [List.getElem?_map] at hri
      obtain ⟨y, hy, rfl⟩ := Option.map_eq_some_iff.mp hri
      have hs := sh.r y (List.mem_of_getElem? hy)
      obtain ⟨h1, h2, h3⟩ := hs
      have ht := Same.sqt sm hrow
      refine ⟨_, rfl, .inl ⟨rfl, _, sq ho⟩, _, rfl, t, _, 0, _, rfl, rfl, ht, rfl, _, _, rfl, rfl, szl (by rw [relay_sp, app_len, sp_len]; omega), _, _, rfl, rfl, szl (by rw [relay_sp, app_len, app_len, sp_len]; omega), _, rfl, t, _, 1, _, rfl, rfl, ht, rfl, _, _, rfl, rfl, szl (by rw [relay_sp, app_len, app_len, app_len, sp_len]; omega), _, _, rfl, rfl, szl (by rw [relay_sp, app_len, app_len, app_len, app_len, sp_len]; omega), _, rfl, t, _, 2, _, rfl, rfl, ht, rfl, _, _, rfl, rfl, szl (by rw [relay_sp, app_len, app_len, app_len, app_len, app_len, sp_len]; omega), ol, _, _, rfl, rfl, ho, szlt (by simp; omega), ?_⟩
      refine ⟨_, rfl, same_mut sm nl, ?_⟩
      rw [upd_same, List.take_add_one, hy, Option.toList_some, map_snoc, ← List.append_assoc, map_snoc, lR_eq, relay_sp]
    rintro σ G3 ⟨z4, rfl, sm3, ho3⟩
    rw [yrl, List.take_length] at ho3
    -- the lamps
    refine ⟨_, rfl, p, _, 3, _, rfl, rfl, st (sm3 _ _ p0), rfl, l, rfl, ⟨_, sq (sm3 _ _ p4)⟩, for_list (K := K) (a := l) (xs := xl) (fun i σ G => ∃ z5 : Option V, σ = [some (.ref p), some (.ref ol), z2, z3, z4, z5, none, none] ∧ Same H G ∧ G ol = some (.lst (([glueW "nodes" b.nodes, glueW "switches" b.switches] ++ b.relays.map (lR "relay") ++ (b.lamps.take i).map (lR "lamp")).map V.str)))
      ⟨none, rfl, sm3, by rw [List.take_zero, List.map_nil, List.append_nil]; exact ho3⟩ (fun _ _ _ _ ⟨_, _, sm, _⟩ => sq (sm _ _ p4)) ?_ ?_⟩
    · rintro i v σ G hi ⟨z5, rfl, sm, ho⟩
      have hil := (List.getElem?_eq_some_iff.mp hi).1
      obtain ⟨t, rw_, rfl, hrow, hri⟩ := p7.at hi
      rw [List.getElem?_map] at hri
      obtain ⟨y, hy, rfl⟩ := Option.map_eq_some_iff.mp hri
      have hs := sh.l y (List.mem_of_getElem? hy)
      obtain ⟨h1, h2, h3⟩ := hs
      have ht := Same.sqt sm hrow
      refine ⟨_, rfl, .inl ⟨rfl, _, sq ho⟩, _, rfl, t, _, 0, _, rfl, rfl, ht, rfl, _, _, rfl, rfl, szl (by rw [lamp_sp, app_len, sp_len]; omega), _, _, rfl, rfl, szl (by rw [lamp_sp, app_len, app_len, sp_len]; omega), _, rfl, t, _, 1, _, rfl, rfl, ht, rfl, _, _, rfl, rfl, szl (by rw [lamp_sp, app_len, app_len, app_len, sp_len]; omega), _, _, rfl, rfl, szl (by rw [lamp_sp, app_len, app_len, app_len, app_len, sp_len]; omega), _, rfl, t, _, 2, _, rfl, rfl, ht, rfl, _, _, rfl, rfl, szl (by rw [lamp_sp, app_len, app_len, app_len, app_len, app_len, sp_len]; omega), ol, _, _, rfl, rfl, ho, szlt (by simp; omega), ?_⟩
      refine ⟨_, rfl, same_mut sm nl, ?_⟩
      rw [upd_same, List.take_add_one, hy, Option.toList_some, map_snoc, ← List.append_assoc, map_snoc, lR_eq, lamp_sp]
    rintro σ G4 ⟨z5, rfl, sm4, ho4⟩
    rw [yll, List.take_length] at ho4
    -- the contacts
    refine ⟨_, rfl, p, _, 4, _, rfl, rfl, st (sm4 _ _ p0), rfl, c, rfl, ⟨_, sq (sm4 _ _ p5)⟩, for_list (K := K) (a := c) (xs := xc) (fun i σ G => ∃ z6 z7 : Option V, σ = [some (.ref p), some (.ref ol), z2, z3, z4, z5, z6, z7] ∧ Same H G ∧ G ol = some (.lst (([glueW "nodes" b.nodes, glueW "switches" b.switches] ++ b.relays.map (lR "relay") ++ b.lamps.map (lR "lamp") ++ (b.contacts.take i).map lC).map V.str)))
      ⟨none, none, rfl, sm4, by rw [List.take_zero, List.map_nil, List.append_nil]; exact ho4⟩ (fun _ _ _ _ ⟨_, _, _, sm, _⟩ => sq (sm _ _ p5)) ?_ ?_⟩
    · rintro i v σ G hi ⟨z6, z7, rfl, sm, ho⟩
      have hil := (List.getElem?_eq_some_iff.mp hi).1
      obtain ⟨t, rw_, rfl, hrow, hri⟩ := p8.at hi
      rw [List.getElem?_map] at hri
      obtain ⟨y, hy, rfl⟩ := Option.map_eq_some_iff.mp hri
      have hs := sh.c y (List.mem_of_getElem? hy)
      obtain ⟨h1, h2, h3, h4, h5⟩ := hs
      have ht := Same.sqt sm hrow
      refine ⟨_, rfl, t, _, 2, _, rfl, rfl, ht, rfl, _, rfl, rfl, _, rfl, ?_⟩
      have len9 : ((([glueW "nodes" b.nodes, glueW "switches" b.switches] ++ b.relays.map (lR "relay") ++ b.lamps.map (lR "lamp") ++ (b.contacts.take i).map lC)).map V.str).length ≤ 1000 := by
        simp
        omega
      cases em : y.mv with
      | none =>
        rw [show decide (mvV none = V.non) = true from rfl]
        refine iteT ?_
        rw [em] at h3
        refine ⟨_, rfl, .inl ⟨rfl, _, sq ho⟩, _, rfl, t, _, 0, _, rfl, rfl, ht, rfl, _, _, rfl, rfl, szl (by rw [contact_sp, app_len, sp_len]; omega), _, _, rfl, rfl, szl (by rw [contact_sp, app_len, app_len, sp_len]; omega), _, rfl, t, _, 1, _, rfl, rfl, ht, rfl, _, _, rfl, rfl, szl (by rw [contact_sp, app_len, app_len, app_len, sp_len]; omega), _, _, rfl, rfl, szl (by rw [contact_sp, app_len, app_len, app_len, app_len, sp_len]; omega), _, rfl, _, _, rfl, rfl, szl (by rw [contact_sp, app_len, app_len, app_len, app_len, app_len, sp_len, k6]; omega), _, _, rfl, rfl, szl (by rw [contact_sp, app_len, app_len, app_len, app_len, app_len, app_len, sp_len, k6]; omega), _, rfl, t, _, 3, _, rfl, rfl, ht, rfl, _, _, rfl, rfl, szl (by rw [contact_sp, app_len, app_len, app_len, app_len, app_len, app_len, app_len, sp_len, k6]; omega), _, _, rfl, rfl, szl (by rw [contact_sp, app_len, app_len, app_len, app_len, app_len, app_len, app_len, app_len, sp_len, k6]; omega), _, rfl, t, _, 4, _, rfl, rfl, ht, rfl, _, _, rfl, rfl, szl (by rw [contact_sp, app_len, app_len, app_len, app_len, app_len, app_len, app_len, app_len, app_len, sp_len, k6]; omega), ol, _, _, rfl, rfl, ho, szlt (by omega), ?_⟩
        refine ⟨_, _, rfl, same_mut sm nl, ?_⟩
        rw [upd_same, List.take_add_one, hy, Option.toList_some, map_snoc, ← List.append_assoc, map_snoc, lC_eq, em, contact_sp]
        rfl
      | some mo =>
        rw [show decide (mvV (some mo) = V.non) = false from decide_eq_false fun z => by cases z]
        refine iteF ?_
        rw [em] at h3
        have h3' : mo.length ≤ 12 := h3
        refine ⟨_, rfl, .inl ⟨rfl, _, sq ho⟩, _, rfl, t, _, 0, _, rfl, rfl, ht, rfl, _, _, rfl, rfl, szl (by rw [contact_sp, app_len, sp_len]; omega), _, _, rfl, rfl, szl (by rw [contact_sp, app_len, app_len, sp_len]; omega), _, rfl, t, _, 1, _, rfl, rfl, ht, rfl, _, _, rfl, rfl, szl (by rw [contact_sp, app_len, app_len, app_len, sp_len]; omega), _, _, rfl, rfl, szl (by rw [contact_sp, app_len, app_len, app_len, app_len, sp_len]; omega), _, rfl, _, _, rfl, rfl, szl (by rw [contact_sp, app_len, app_len, app_len, app_len, app_len, sp_len]; omega), _, _, rfl, rfl, szl (by rw [contact_sp, app_len, app_len, app_len, app_len, app_len, app_len, sp_len]; omega), _, rfl, t, _, 3, _, rfl, rfl, ht, rfl, _, _, rfl, rfl, szl (by rw [contact_sp, app_len, app_len, app_len, app_len, app_len, app_len, app_len, sp_len]; omega), _, _, rfl, rfl, szl (by rw [contact_sp, app_len, app_len, app_len, app_len, app_len, app_len, app_len, app_len, sp_len]; omega), _, rfl, t, _, 4, _, rfl, rfl, ht, rfl, _, _, rfl, rfl, szl (by rw [contact_sp, app_len, app_len, app_len, app_len, app_len, app_len, app_len, app_len, app_len, sp_len]; omega), ol, _, _, rfl, rfl, ho, szlt (by omega), ?_⟩
        refine ⟨_, _, rfl, same_mut sm nl, ?_⟩
        rw [upd_same, List.take_add_one, hy, Option.toList_some, map_snoc, ← List.append_assoc, map_snoc, lC_eq, em, contact_sp]
        rfl
    rintro σ G5 ⟨z6, z7, rfl, sm5, ho5⟩
    rw [ycl, List.take_length] at ho5
    refine ⟨_, rfl, q G5 ol sm5 nl ?_⟩
    rw [ho5, lines_eq]
    simp only [List.append_assoc, List.cons_append, List.nil_append]
/-! ### law -/
def spLaw (K : PySem.W.Frag) : Sp := fun vs H Q _ => ∃ (a : Addr) (ns : List Int), vs = [.ref a] ∧ SqL K H a (ns.map V.int) ∧ ns.length ≤ 63 ∧ ∀ H', Q (.bl true) H'
theorem scLaw : FnScope ["script", "numbers", "parts", "board", "due", "actual", "at", "fewer"] ["script"] (defScope sLaw) := ⟨rfl, rfl, rfl, by decide +kernel, rfl, by decide +kernel, by decide +kernel⟩
structure Txt (mg : Str → Option Value) : Prop where
  abs : mg "abs" = none
  int : mg "int" = none
  range : mg "range" = none
  max : mg "max" = none
  min : mg "min" = none
  list : mg "list" = none
  isi : mg "isinstance" = none
  str : mg "str" = none
theorem bt_str : bootBuiltins "str" = some (.type "str") := by decide +kernel
theorem ok_law {f C sp sg fQ fS fF fL fO fP fN : Addr} {mc : Value} {tw : Tok} {fd fdQ fdS fdF fdL fdO fdP fdN : FuncData} (F : Fun K "law" "law" sLaw f fd) (T : BTxt K mg C mc sp sg) (X : Txt mg) (gW : mg "WIRE" = some (.str "-" tw))
    (FN : Fun K "_law_numbers" "_law_numbers" sLawNumbers fN fdN) (bN : Binds K fdN ["script", "many"] []) (gN : mg "_law_numbers" = some (.ref fN)) (GN : FnOk P w K mg base CX0 2 fN fdN ["script", "many"] (spNumbers K))
    (FP : Fun K "_law_parts" "_law_parts" sLawParts fP fdP) (bP : Binds K fdP ["numbers"] []) (gP : mg "_law_parts" = some (.ref fP)) (GP : FnOk P w K mg base CX0 3 fP fdP ["numbers"] (spParts K))
    (FQ : Fun K "_law_made" "_law_made" sLawMade fQ fdQ) (bQ : Binds K fdQ ["parts"] []) (gQ : mg "_law_made" = some (.ref fQ)) (GQ : FnOk P w K mg base CX0 6 fQ fdQ ["parts"] (spMade K C))
    (FS : Fun K "_law_same" "_law_same" sLawSame fS fdS) (bS : Binds K fdS ["board", "parts"] []) (gS : mg "_law_same" = some (.ref fS))
    (FF : Fun K "format_board" "format_board" sFormatBoard fF fdF) (bF : Binds K fdF ["board"] []) (gF : mg "format_board" = some (.ref fF))
    (FL : Fun K "_law_lines" "_law_lines" sLawLines fL fdL) (bL : Binds K fdL ["parts"] []) (gL : mg "_law_lines" = some (.ref fL))
    (bO : Binds K fdO ["self", "number"] []) (mO : Meth K C "without_contact" fO) (GO : FnOk P w K mg base CX0 7 fO fdO ["self", "number"] (spWithout K C)) : FnOk P w K mg base CX0 8 f fd ["script"] (spLaw K) := by
  have GS : FnOk P w K mg base CX0 1 fS fdS ["board", "parts"] (spSame K C) := ok_same FS T X.isi
  have GF : FnOk P w K mg base CX0 1 fF fdF ["board"] (spFormat K C) := ok_format FF T gW
  have GL : FnOk P w K mg base CX0 1 fL fdL ["parts"] (spLines K) := ok_lines FL
  refine F.ok scLaw (fun vs H Q E h => ?_) (fun cdv A outer s H vs Q E hr h => ?_)
  · obtain ⟨a, ns, rfl, _⟩ := h
    rfl
  · obtain ⟨a, cs, rfl, hS, hlen, q⟩ := h
    have hr1 : Room 1 _ := hr.mono (by decide)
    have hr2 : Room 2 _ := hr.mono (by decide)
    have hr3 : Room 3 _ := hr.mono (by decide)
    have hr6 : Room 6 _ := hr.mono (by decide)
    refine ⟨_, pss_cons (ps_set (i := 1) scLaw.nd rfl (.inl rfl) (pe_call GN hr2 (by rfl) gN FN.kp bN .nil pass0 (pa_cons (pv 0) (pa_cons pe_int pa_nil))))
      (pss_cons (ps_set (i := 2) scLaw.nd rfl (.inl rfl) (pe_call GP hr3 (by rfl) gP FP.kp bP .nil pass0 (pa_cons (pv 1) pa_nil)))
      (pss_cons (ps_set (i := 3) scLaw.nd rfl (.inl rfl) (pe_call GQ hr6 (by rfl) gQ FQ.kp bQ .nil pass0 (pa_cons (pv 2) pa_nil)))
      (pss_cons (ps_set (i := 4) scLaw.nd rfl (.inl rfl) (pe_bm PySem.F.plainAttrs_str PySem.F.slot_str_join PySem.F.type_str_join mt_join pe_str (pa_cons (pe_call GL hr1 (by rfl) gL FL.kp bL .nil pass0 (pa_cons (pv 2) pa_nil)) pa_nil)))
      (pss_cons (ps_set (i := 5) scLaw.nd rfl (.inl rfl) (pe_call GF hr1 (by rfl) gF FF.kp bF .nil pass0 (pa_cons (pv 3) pa_nil)))
      (pss_cons (ps_if (PW.pt (pw_or (pt_not (pt_val (pe_callB call_isi (by rfl) X.isi (by decide +kernel) (pa_cons (pv 5) (pa_cons (pe_bltn (v := .ty "str") (by rfl) X.str bt_str rfl) pa_nil))))) (pw_or1 (pt_cmpR op_ne (pv 5) (pv 4) (nomark _))))) (pss_one (ps_ret pe_bl)) pss_nil)
      (pss_cons (ps_if (pt_cmpR op_gt (pe_callB call_len_seq (by rfl) T.len PySem.boot_len (pa_cons (pe_ix ix_tup (pv 2) pe_int (fun _ _ => rfl)) pa_nil)) pe_int (nomark _))
        (pss_cons (ps_set (i := 6) scLaw.nd rfl (.inl rfl) (pe_op op_mod (pe_callTy call_int1 (by rfl) X.int (by decide +kernel) (pa_cons (pe_ix ix_list (pv 1) pe_int (fun _ _ => rfl)) pa_nil)) (pe_callB call_len_seq (by rfl) T.len PySem.boot_len (pa_cons (pe_ix ix_tup (pv 2) pe_int (fun _ _ => rfl)) pa_nil))))
        (pss_cons (ps_set (i := 7) scLaw.nd rfl (.inl rfl) (pe_tup (pa_cons (pe_ix ix_tup (pv 2) pe_int (fun _ _ => rfl)) (pa_cons (pe_ix ix_tup (pv 2) pe_int (fun _ _ => rfl)) (pa_cons (pe_ix ix_tup (pv 2) pe_int (fun _ _ => rfl)) (pa_cons (pe_ix ix_tup (pv 2) pe_int (fun _ _ => rfl))
            (pa_cons (pe_op op_cat (pe_slice sl_list (pe_ix ix_tup (pv 2) pe_int (fun _ _ => rfl)) po_none (po_some (pv 6))) (pe_slice sl_list (pe_ix ix_tup (pv 2) pe_int (fun _ _ => rfl)) (po_some (pe_op op_add (pv 6) pe_int)) po_none)) pa_nil)))))))
        (pss_one (ps_if (pt_cmpR op_ne (pe_call GF hr1 (by rfl) gF FF.kp bF .nil pass0 (pa_cons (pe_meth (pv 3) T.cl mO GO hr bO .nil pass0 (pa_cons (pv 6) pa_nil)) pa_nil)) (pe_bm PySem.F.plainAttrs_str PySem.F.slot_str_join PySem.F.type_str_join mt_join pe_str (pa_cons (pe_call GL hr1 (by rfl) gL FL.kp bL .nil pass0 (pa_cons (pv 7) pa_nil)) pa_nil)) (nomark _)) (pss_one (ps_ret pe_bl)) pss_nil)))) pss_nil)
      (pss_one (ps_ret (pe_and (pe_cmpR op_eq (pe_call GF hr1 (by rfl) gF FF.kp bF .nil pass0 (pa_cons (pv 3) pa_nil)) (pv 4) (nomark _)) (pe_one (pe_call GS hr1 (by rfl) gS FS.kp bS .nil pass0 (pa_cons (pv 3) (pa_cons (pv 2) pa_nil))))))))))))), ?_⟩
    refine ⟨_, rfl, a, cs, 254, rfl, hS, hlen, by decide, fun H1 o1 ns s1 n1 h1 l1 hn => ?_⟩
    refine ⟨_, rfl, o1, ns, rfl, sq h1, hn, by omega, fun H2 pp b s2 n2 hP dr => ?_⟩
    have ok := dr.ok
    have few := dr.few
    have tx := ok.texts
    have sh := ok.short
    obtain ⟨ls1, ls2⟩ := lines_short sh
    have hsum := sum_le ls1
    refine ⟨_, rfl, pp, b, rfl, hP, few, ok, fun H3 pb s3 n3 hB => ?_⟩
    -- due
    refine ⟨rfl, _, rfl, pp, b, rfl, hP.mono s3, sh, fun H4 o4 s4 n4 h4 => ?_⟩
    refine ⟨_, o4, linesOf b, rfl, rfl, .inl (sq h4), by rw [nl_len]; omega, ?_⟩
    rw [TL.join_eq]
    refine ⟨_, rfl, pb, b, rfl, hB.mono s4, sh, fun H5 s5 => ?_⟩
    refine ⟨_, rfl, _, _, .type "str", .type "str", true, rfl, .ty "str", .base (.str _), kit_ty (by decide +kernel), _, rfl, ?_⟩
    refine iteF ?_
    refine ⟨_, rfl, _, rfl, rfl, _, rfl, ?_⟩
    rw [decide_eq_true rfl]
    refine iteF ?_
    have s35 := s4.trans s5
    have hP5 := hP.mono (s3.trans s35)
    have hB5 := hB.mono s35
    obtain ⟨n, sw, r, l, c, xr, xl, xc, p0, p1, p2, p3, p4, p5, p6, p7, p8⟩ := id hP5
    have lc := p8.len
    rw [List.length_map] at lc
    have c40 := ok.ct
    refine ⟨_, rfl, pp, _, 4, _, rfl, rfl, st p0, rfl, c, _, rfl, .inl (sq p5), _, _, rfl, rfl, _, rfl, ?_⟩
    refine ite2 (fun hpos => ?_) (fun _ => ?_)
    · have hpos' : 0 < (xc.length : Int) := of_decide_eq_true hpos
      obtain ⟨x0, _, gx⟩ := at_get hn (show 253 < ns.length by omega)
      refine ⟨_, rfl, o1, _, 253, _, rfl, rfl, sq ((s2.trans (s3.trans s35)) _ _ h1), gx _ rfl, .inl ⟨_, rfl, _, rfl, pp, _, 4, _, rfl, rfl, st p0, rfl, c, _, rfl, .inl (sq p5), _, _, rfl, rfl, (by omega), ?_⟩⟩
      have e0 := Int.emod_nonneg (getI ns 253) (show (xc.length : Int) ≠ 0 by omega)
      have e1 := Int.emod_lt_of_pos (getI ns 253) hpos'
      obtain ⟨i, hi⟩ : ∃ i : Nat, getI ns 253 % (xc.length : Int) = (i : Int) := ⟨_, (Int.toNat_of_nonneg e0).symm⟩
      have hil : i < b.contacts.length := by omega
      have sl : ∀ xs : List V, cutV xs none (some (getI ns 253 % (xc.length : Int))) = xs.take i := fun xs => by rw [hi, cut_list]
      have sl2 : ∀ xs : List V, cutV xs (some (getI ns 253 % (xc.length : Int) + 1)) none = xs.drop (i + 1) := fun xs => by rw [hi, show ((i : Int) + 1) = ((i + 1 : Nat) : Int) by omega, cut_drop_list]
      -- fewer
      refine ⟨_, rfl, pp, _, 0, _, rfl, rfl, st p0, rfl, _, rfl, pp, _, 1, _, rfl, rfl, st p0, rfl, _, rfl, pp, _, 2, _, rfl, rfl, st p0, rfl, _, rfl, pp, _, 3, _, rfl, rfl, st p0, rfl, _, rfl, pp, _, 4, _, rfl, rfl, st p0, rfl, _, rfl, _, rfl, c, _, rfl, sq p5, fun o6 n6 => ?_⟩
      rw [sl]
      have s6 := same_upd (o := .lst (xc.take i)) n6
      refine ⟨_, rfl, pp, _, 4, _, rfl, rfl, st (s6 _ _ p0), rfl, _, rfl, _, _, rfl, rfl, _, rfl, c, _, rfl, sq (s6 _ _ p5), fun o7 n7 => ?_⟩
      rw [sl2]
      have s7 := same_upd (o := .lst (xc.drop (i + 1))) n7
      refine ⟨o6, o7, _, _, rfl, rfl, s7 _ _ upd_same, upd_same, szl (by rw [List.length_take, List.length_drop]; omega), fun o8 n8 => ?_⟩
      have s8 := same_upd (o := .lst (xc.take i ++ xc.drop (i + 1))) n8
      have s58 := (s6.trans s7).trans s8
      refine ⟨by show 5 ≤ sizeLine; decide, fun o9 n9 => ?_⟩
      have s9 := same_upd (o := .tup [.ref n, .ref sw, .ref r, .ref l, .ref o8]) n9
      have s59 := s58.trans s9
      have ll : (b.contacts.take i ++ b.contacts.drop (i + 1)).length ≤ 40 := by
        rw [List.length_append, List.length_take, List.length_drop]
        omega
      have bok : (b.with (b.contacts.take i ++ b.contacts.drop (i + 1))).Ok := ok.with ll fun d hd => by
        rcases List.mem_append.mp hd with h | h
        · exact ok.cts d (List.mem_of_mem_take h)
        · exact ok.cts d (List.mem_of_mem_drop h)
      have hF : PartsAt K _ o9 (b.with (b.contacts.take i ++ b.contacts.drop (i + 1))) := ⟨n, sw, r, l, o8, xr, xl, xc.take i ++ xc.drop (i + 1), upd_same, s59 _ _ p1, s59 _ _ p2, s59 _ _ p3, s59 _ _ p4, s9 _ _ upd_same, p6.mono s59, p7.mono s59, by
        have g1 := (p8.mono s59).take i
        have g2 := (p8.mono s59).drop (i + 1)
        rw [← List.map_take] at g1
        rw [← List.map_drop] at g2
        show Rows K _ _ ((b.contacts.take i ++ b.contacts.drop (i + 1)).map Ct.row)
        rw [List.map_append]
        exact g1.app g2⟩
      obtain ⟨dx, fs, tn, ts, tr, tl, tc, tm, yr, yl, yc, hpb, f5, r1, r2, only⟩ := id (hB5.mono s59)
      have shf := bok.short
      obtain ⟨lf1, lf2⟩ := lines_short shf
      have hsumf := sum_le lf1
      refine ⟨_, rfl, pb, dx, fs, rfl, hpb, only _ (by decide +kernel), _, rfl, pb, b, i, by rw [← hi]; rfl, hB5.mono s59, few, ok, hil, fun H10 q10 s10 n10 hB10 => ?_⟩
      refine ⟨q10, _, rfl, hB10, shf, fun H11 s11 => ?_⟩
      refine ⟨rfl, _, rfl, o9, _, rfl, (hF.mono s10).mono s11, shf, fun H12 o12 s12 n12 h12 => ?_⟩
      refine ⟨_, o12, _, rfl, rfl, .inl (sq h12), by rw [nl_len]; omega, ?_⟩
      rw [TL.join_eq]
      refine ⟨rfl, _, rfl, ?_⟩
      rw [decide_eq_true rfl]
      refine iteF ?_
      have sall := ((s59.trans s10).trans s11).trans s12
      refine ⟨_, rfl, pb, b, rfl, hB5.mono sall, sh, fun H13 s13 => ⟨_, rfl, rfl, _, rfl, ?_⟩⟩
      rw [decide_eq_true rfl]
      refine iteT ?_
      exact ⟨_, rfl, _, rfl, pb, pp, b, rfl, (hB5.mono sall).mono s13, (hP5.mono sall).mono s13, tx, fun H' _ => q H'⟩
    · refine ⟨_, rfl, pb, b, rfl, hB5, sh, fun H13 s13 => ⟨_, rfl, rfl, _, rfl, ?_⟩⟩
      rw [decide_eq_true rfl]
      refine iteT ?_
      exact ⟨_, rfl, _, rfl, pb, pp, b, rfl, hB5.mono s13, hP5.mono s13, tx, fun H' _ => q H'⟩
end
theorem all_mk {l : PySem.W.OpenLaw} {w : World} {K : PySem.W.Frag} {h : Heap} {mg : Str → Option Value} {fa : Addr} (X : K.In h) (G : h.Ns mainGlobals mg) (hfa : mg "law" = some (.ref fa))
    {C : Addr}
    {tc1 : Tok}
    {tc2 : Tok}
    {tc3 : Tok}
    {tc4 : Tok}
    {tc5 : Tok}
    {tg1 : Tok}
    {tg2 : Tok}
    {tg3 : Tok}
    {tg4 : Tok}
    {aW : Addr} {xW yW : Tok} {ddW : Option Addr} {nW : Nat} {ssW : Array (Option Value)}
    {aY : Addr} {xY yY : Tok} {ddY : Option Addr} {nY : Nat} {ssY : Array (Option Value)}
    {fCsp : Addr} {odCsp anCsp : Option Addr} {slCsp : Array (Option Value)} {ocCsp dcCsp pmCsp cdCsp ctCsp : Value} {kVCsp : Value}
    {fCnm : Addr} {odCnm anCnm : Option Addr} {slCnm : Array (Option Value)} {ocCnm dcCnm pmCnm cdCnm ctCnm : Value} {kVCnm : Value}
    {fCct : Addr} {odCct anCct : Option Addr} {slCct : Array (Option Value)} {ocCct dcCct pmCct cdCct ctCct : Value} {kVCct : Value}
    {fIni : Addr} {odIni anIni : Option Addr} {slIni : Array (Option Value)} {ocIni dcIni pmIni cdIni ctIni : Value} {kVIni : Value}
    {fWou : Addr} {odWou anWou : Option Addr} {slWou : Array (Option Value)} {ocWou dcWou pmWou cdWou ctWou : Value} {kVWou : Value}
    {fWic : Addr} {odWic anWic : Option Addr} {slWic : Array (Option Value)} {ocWic dcWic pmWic cdWic ctWic : Value} {kVWic : Value}
    {fIsn : Addr} {odIsn anIsn : Option Addr} {slIsn : Array (Option Value)} {ocIsn dcIsn pmIsn cdIsn ctIsn : Value} {kVIsn : Value}
    {fArn : Addr} {odArn anArn : Option Addr} {slArn : Array (Option Value)} {ocArn dcArn pmArn cdArn ctArn : Value} {kVArn : Value}
    {fSpn : Addr} {odSpn anSpn : Option Addr} {slSpn : Array (Option Value)} {ocSpn dcSpn pmSpn cdSpn ctSpn : Value} {kVSpn : Value}
    {fCnt : Addr} {odCnt anCnt : Option Addr} {slCnt : Array (Option Value)} {ocCnt dcCnt pmCnt cdCnt ctCnt : Value} {kVCnt : Value}
    {fChn : Addr} {odChn anChn : Option Addr} {slChn : Array (Option Value)} {ocChn dcChn pmChn cdChn ctChn : Value} {kVChn : Value}
    {fFmt : Addr} {odFmt anFmt : Option Addr} {slFmt : Array (Option Value)} {ocFmt dcFmt pmFmt cdFmt ctFmt : Value} {kVFmt : Value}
    {fRow : Addr} {odRow anRow : Option Addr} {slRow : Array (Option Value)} {ocRow dcRow pmRow cdRow ctRow : Value} {kVRow : Value}
    {fNum : Addr} {odNum anNum : Option Addr} {slNum : Array (Option Value)} {ocNum dcNum pmNum cdNum ctNum : Value} {kVNum : Value}
    {fNms : Addr} {odNms anNms : Option Addr} {slNms : Array (Option Value)} {ocNms dcNms pmNms cdNms ctNms : Value} {kVNms : Value}
    {fCou : Addr} {odCou anCou : Option Addr} {slCou : Array (Option Value)} {ocCou dcCou pmCou cdCou ctCou : Value} {kVCou : Value}
    {fTwo : Addr} {odTwo anTwo : Option Addr} {slTwo : Array (Option Value)} {ocTwo dcTwo pmTwo cdTwo ctTwo : Value} {kVTwo : Value}
    {fLco : Addr} {odLco anLco : Option Addr} {slLco : Array (Option Value)} {ocLco dcLco pmLco cdLco ctLco : Value} {kVLco : Value}
    {fLoa : Addr} {odLoa anLoa : Option Addr} {slLoa : Array (Option Value)} {ocLoa dcLoa pmLoa cdLoa ctLoa : Value} {kVLoa : Value}
    {fPar : Addr} {odPar anPar : Option Addr} {slPar : Array (Option Value)} {ocPar dcPar pmPar cdPar ctPar : Value} {kVPar : Value}
    {fMad : Addr} {odMad anMad : Option Addr} {slMad : Array (Option Value)} {ocMad dcMad pmMad cdMad ctMad : Value} {kVMad : Value}
    {fSam : Addr} {odSam anSam : Option Addr} {slSam : Array (Option Value)} {ocSam dcSam pmSam cdSam ctSam : Value} {kVSam : Value}
    {fLin : Addr} {odLin anLin : Option Addr} {slLin : Array (Option Value)} {ocLin dcLin pmLin cdLin ctLin : Value} {kVLin : Value}
    {fLaw : Addr} {odLaw anLaw : Option Addr} {slLaw : Array (Option Value)} {ocLaw dcLaw pmLaw cdLaw ctLaw : Value} {kVLaw : Value}
    {tw : Tok}
    (aC : PySem.W.nsIn K mainGlobals "Board" = some (some (.ref C)))
    (pg : PySem.W.plainGet K C Str.empty = true)
    (hd : PySem.W.hasDictIn K C = true)
    (po : PySem.W.plainOver K C = true)
    (sa : PySem.W.findIn K (.ref C) "__setattr__" = some (some (.builtin "object.__setattr__")))
    (mk : PySem.W.makesIn K C = true)
    (kc : PySem.W.keepIn K (.ref C) = true)
    (rd : PySem.W.readsIn K C (.type "type") = true)
    (ga : PySem.W.specialIn K (.ref C) "__getattribute__" = some (some (.builtin "type.__getattribute__")))
    (nN : PySem.W.findIn K (.ref C) "nodes" = some none)
    (nS : PySem.W.findIn K (.ref C) "switches" = some none)
    (nR : PySem.W.findIn K (.ref C) "relays" = some none)
    (nL : PySem.W.findIn K (.ref C) "lamps" = some none)
    (nC : PySem.W.findIn K (.ref C) "contacts" = some none)
    (nM : PySem.W.findIn K (.ref C) "_movers" = some none)
    (m1 : PySem.W.findCls K (.ref C) (.type "type") "MOST_NODES" = some (.val (.int 16 tc1)))
    (m2 : PySem.W.findCls K (.ref C) (.type "type") "MOST_SWITCHES" = some (.val (.int 6 tc2)))
    (m3 : PySem.W.findCls K (.ref C) (.type "type") "MOST_RELAYS" = some (.val (.int 8 tc3)))
    (m4 : PySem.W.findCls K (.ref C) (.type "type") "MOST_LAMPS" = some (.val (.int 8 tc4)))
    (m5 : PySem.W.findCls K (.ref C) (.type "type") "MOST_CONTACTS" = some (.val (.int 40 tc5)))
    (q1 : PySem.W.nsIn K mainGlobals "LONGEST_NAME" = some (some (.int 12 tg1)))
    (q2 : PySem.W.nsIn K mainGlobals "LEAST_NODES" = some (some (.int 2 tg2)))
    (q3 : PySem.W.nsIn K mainGlobals "LEAST_LAMPS" = some (some (.int 1 tg3)))
    (q4 : PySem.W.nsIn K mainGlobals "CHARACTERS" = some (some (.str "abcdefghijklmnopqrstuvwxyz0123456789" tg4)))
    (bW : PySem.W.nsIn K mainGlobals "WHENS" = some (some (.ref aW)))
    (eW : K.lookup aW = some ⟨.type "tuple", ddW, .seq #[.str "make" xW, .str "break" yW] nW, ssW⟩)
    (bY : PySem.W.nsIn K mainGlobals "WAYS" = some (some (.ref aY)))
    (eY : K.lookup aY = some ⟨.type "tuple", ddY, .seq #[.str "both" xY, .str "forward" yY] nY, ssY⟩)
    (aCsp : PySem.W.findIn K (.ref C) "_check_spans" = some (some (.ref fCsp)))
    (iCsp : PySem.W.isFn K (.ref fCsp) = true)
    (lCsp : K.lookup fCsp = some ⟨ocCsp, odCsp, .func (PySem.W.fnOf "_check_spans" "Board._check_spans" (defArgs sBoardCheckSpans) (defBody sBoardCheckSpans) (defScope sBoardCheckSpans) .none kVCsp dcCsp pmCsp anCsp cdCsp ctCsp), slCsp⟩)
    (cCsp : PySem.W.codeIn K cdCsp "Board._check_spans" = true)
    (kCsp : PySem.W.keepIn K (.ref fCsp) = true)
    (aCnm : PySem.W.findIn K (.ref C) "_check_names" = some (some (.ref fCnm)))
    (iCnm : PySem.W.isFn K (.ref fCnm) = true)
    (lCnm : K.lookup fCnm = some ⟨ocCnm, odCnm, .func (PySem.W.fnOf "_check_names" "Board._check_names" (defArgs sBoardCheckNames) (defBody sBoardCheckNames) (defScope sBoardCheckNames) .none kVCnm dcCnm pmCnm anCnm cdCnm ctCnm), slCnm⟩)
    (cCnm : PySem.W.codeIn K cdCnm "Board._check_names" = true)
    (kCnm : PySem.W.keepIn K (.ref fCnm) = true)
    (aCct : PySem.W.findIn K (.ref C) "_check_contacts" = some (some (.ref fCct)))
    (iCct : PySem.W.isFn K (.ref fCct) = true)
    (lCct : K.lookup fCct = some ⟨ocCct, odCct, .func (PySem.W.fnOf "_check_contacts" "Board._check_contacts" (defArgs sBoardCheckContacts) (defBody sBoardCheckContacts) (defScope sBoardCheckContacts) .none kVCct dcCct pmCct anCct cdCct ctCct), slCct⟩)
    (cCct : PySem.W.codeIn K cdCct "Board._check_contacts" = true)
    (kCct : PySem.W.keepIn K (.ref fCct) = true)
    (aIni : PySem.W.findIn K (.ref C) "__init__" = some (some (.ref fIni)))
    (iIni : PySem.W.isFn K (.ref fIni) = true)
    (lIni : K.lookup fIni = some ⟨ocIni, odIni, .func (PySem.W.fnOf "__init__" "Board.__init__" (defArgs sBoardInit) (defBody sBoardInit) (defScope sBoardInit) .none kVIni dcIni pmIni anIni cdIni ctIni), slIni⟩)
    (cIni : PySem.W.codeIn K cdIni "Board.__init__" = true)
    (kIni : PySem.W.keepIn K (.ref fIni) = true)
    (aWou : PySem.W.findIn K (.ref C) "without_contact" = some (some (.ref fWou)))
    (iWou : PySem.W.isFn K (.ref fWou) = true)
    (lWou : K.lookup fWou = some ⟨ocWou, odWou, .func (PySem.W.fnOf "without_contact" "Board.without_contact" (defArgs sBoardWithoutContact) (defBody sBoardWithoutContact) (defScope sBoardWithoutContact) .none kVWou dcWou pmWou anWou cdWou ctWou), slWou⟩)
    (cWou : PySem.W.codeIn K cdWou "Board.without_contact" = true)
    (kWou : PySem.W.keepIn K (.ref fWou) = true)
    (aWic : PySem.W.findIn K (.ref C) "_with_contacts" = some (some (.ref fWic)))
    (iWic : PySem.W.isFn K (.ref fWic) = true)
    (lWic : K.lookup fWic = some ⟨ocWic, odWic, .func (PySem.W.fnOf "_with_contacts" "Board._with_contacts" (defArgs sBoardWithContacts) (defBody sBoardWithContacts) (defScope sBoardWithContacts) .none kVWic dcWic pmWic anWic cdWic ctWic), slWic⟩)
    (cWic : PySem.W.codeIn K cdWic "Board._with_contacts" = true)
    (kWic : PySem.W.keepIn K (.ref fWic) = true)
    (aIsn : PySem.W.nsIn K mainGlobals "is_good_name" = some (some (.ref fIsn)))
    (lIsn : K.lookup fIsn = some ⟨ocIsn, odIsn, .func (PySem.W.fnOf "is_good_name" "is_good_name" (defArgs sIsGoodName) (defBody sIsGoodName) (defScope sIsGoodName) .none kVIsn dcIsn pmIsn anIsn cdIsn ctIsn), slIsn⟩)
    (cIsn : PySem.W.codeIn K cdIsn "is_good_name" = true)
    (kIsn : PySem.W.keepIn K (.ref fIsn) = true)
    (aArn : PySem.W.nsIn K mainGlobals "are_names" = some (some (.ref fArn)))
    (lArn : K.lookup fArn = some ⟨ocArn, odArn, .func (PySem.W.fnOf "are_names" "are_names" (defArgs sAreNames) (defBody sAreNames) (defScope sAreNames) .none kVArn dcArn pmArn anArn cdArn ctArn), slArn⟩)
    (cArn : PySem.W.codeIn K cdArn "are_names" = true)
    (kArn : PySem.W.keepIn K (.ref fArn) = true)
    (aSpn : PySem.W.nsIn K mainGlobals "is_span" = some (some (.ref fSpn)))
    (lSpn : K.lookup fSpn = some ⟨ocSpn, odSpn, .func (PySem.W.fnOf "is_span" "is_span" (defArgs sIsSpan) (defBody sIsSpan) (defScope sIsSpan) .none kVSpn dcSpn pmSpn anSpn cdSpn ctSpn), slSpn⟩)
    (cSpn : PySem.W.codeIn K cdSpn "is_span" = true)
    (kSpn : PySem.W.keepIn K (.ref fSpn) = true)
    (aCnt : PySem.W.nsIn K mainGlobals "is_contact" = some (some (.ref fCnt)))
    (lCnt : K.lookup fCnt = some ⟨ocCnt, odCnt, .func (PySem.W.fnOf "is_contact" "is_contact" (defArgs sIsContact) (defBody sIsContact) (defScope sIsContact) .none kVCnt dcCnt pmCnt anCnt cdCnt ctCnt), slCnt⟩)
    (cCnt : PySem.W.codeIn K cdCnt "is_contact" = true)
    (kCnt : PySem.W.keepIn K (.ref fCnt) = true)
    (aChn : PySem.W.nsIn K mainGlobals "check_number" = some (some (.ref fChn)))
    (lChn : K.lookup fChn = some ⟨ocChn, odChn, .func (PySem.W.fnOf "check_number" "check_number" (defArgs sCheckNumber) (defBody sCheckNumber) (defScope sCheckNumber) .none kVChn dcChn pmChn anChn cdChn ctChn), slChn⟩)
    (cChn : PySem.W.codeIn K cdChn "check_number" = true)
    (kChn : PySem.W.keepIn K (.ref fChn) = true)
    (aFmt : PySem.W.nsIn K mainGlobals "format_board" = some (some (.ref fFmt)))
    (lFmt : K.lookup fFmt = some ⟨ocFmt, odFmt, .func (PySem.W.fnOf "format_board" "format_board" (defArgs sFormatBoard) (defBody sFormatBoard) (defScope sFormatBoard) .none kVFmt dcFmt pmFmt anFmt cdFmt ctFmt), slFmt⟩)
    (cFmt : PySem.W.codeIn K cdFmt "format_board" = true)
    (kFmt : PySem.W.keepIn K (.ref fFmt) = true)
    (aRow : PySem.W.nsIn K mainGlobals "_law_row" = some (some (.ref fRow)))
    (lRow : K.lookup fRow = some ⟨ocRow, odRow, .func (PySem.W.fnOf "_law_row" "_law_row" (defArgs sLawRow) (defBody sLawRow) (defScope sLawRow) .none kVRow dcRow pmRow anRow cdRow ctRow), slRow⟩)
    (cRow : PySem.W.codeIn K cdRow "_law_row" = true)
    (kRow : PySem.W.keepIn K (.ref fRow) = true)
    (aNum : PySem.W.nsIn K mainGlobals "_law_numbers" = some (some (.ref fNum)))
    (lNum : K.lookup fNum = some ⟨ocNum, odNum, .func (PySem.W.fnOf "_law_numbers" "_law_numbers" (defArgs sLawNumbers) (defBody sLawNumbers) (defScope sLawNumbers) .none kVNum dcNum pmNum anNum cdNum ctNum), slNum⟩)
    (cNum : PySem.W.codeIn K cdNum "_law_numbers" = true)
    (kNum : PySem.W.keepIn K (.ref fNum) = true)
    (aNms : PySem.W.nsIn K mainGlobals "_law_names" = some (some (.ref fNms)))
    (lNms : K.lookup fNms = some ⟨ocNms, odNms, .func (PySem.W.fnOf "_law_names" "_law_names" (defArgs sLawNames) (defBody sLawNames) (defScope sLawNames) .none kVNms dcNms pmNms anNms cdNms ctNms), slNms⟩)
    (cNms : PySem.W.codeIn K cdNms "_law_names" = true)
    (kNms : PySem.W.keepIn K (.ref fNms) = true)
    (aCou : PySem.W.nsIn K mainGlobals "_law_count" = some (some (.ref fCou)))
    (lCou : K.lookup fCou = some ⟨ocCou, odCou, .func (PySem.W.fnOf "_law_count" "_law_count" (defArgs sLawCount) (defBody sLawCount) (defScope sLawCount) .none kVCou dcCou pmCou anCou cdCou ctCou), slCou⟩)
    (cCou : PySem.W.codeIn K cdCou "_law_count" = true)
    (kCou : PySem.W.keepIn K (.ref fCou) = true)
    (aTwo : PySem.W.nsIn K mainGlobals "_law_two" = some (some (.ref fTwo)))
    (lTwo : K.lookup fTwo = some ⟨ocTwo, odTwo, .func (PySem.W.fnOf "_law_two" "_law_two" (defArgs sLawTwo) (defBody sLawTwo) (defScope sLawTwo) .none kVTwo dcTwo pmTwo anTwo cdTwo ctTwo), slTwo⟩)
    (cTwo : PySem.W.codeIn K cdTwo "_law_two" = true)
    (kTwo : PySem.W.keepIn K (.ref fTwo) = true)
    (aLco : PySem.W.nsIn K mainGlobals "_law_contact" = some (some (.ref fLco)))
    (lLco : K.lookup fLco = some ⟨ocLco, odLco, .func (PySem.W.fnOf "_law_contact" "_law_contact" (defArgs sLawContact) (defBody sLawContact) (defScope sLawContact) .none kVLco dcLco pmLco anLco cdLco ctLco), slLco⟩)
    (cLco : PySem.W.codeIn K cdLco "_law_contact" = true)
    (kLco : PySem.W.keepIn K (.ref fLco) = true)
    (aLoa : PySem.W.nsIn K mainGlobals "_law_loads" = some (some (.ref fLoa)))
    (lLoa : K.lookup fLoa = some ⟨ocLoa, odLoa, .func (PySem.W.fnOf "_law_loads" "_law_loads" (defArgs sLawLoads) (defBody sLawLoads) (defScope sLawLoads) .none kVLoa dcLoa pmLoa anLoa cdLoa ctLoa), slLoa⟩)
    (cLoa : PySem.W.codeIn K cdLoa "_law_loads" = true)
    (kLoa : PySem.W.keepIn K (.ref fLoa) = true)
    (aPar : PySem.W.nsIn K mainGlobals "_law_parts" = some (some (.ref fPar)))
    (lPar : K.lookup fPar = some ⟨ocPar, odPar, .func (PySem.W.fnOf "_law_parts" "_law_parts" (defArgs sLawParts) (defBody sLawParts) (defScope sLawParts) .none kVPar dcPar pmPar anPar cdPar ctPar), slPar⟩)
    (cPar : PySem.W.codeIn K cdPar "_law_parts" = true)
    (kPar : PySem.W.keepIn K (.ref fPar) = true)
    (aMad : PySem.W.nsIn K mainGlobals "_law_made" = some (some (.ref fMad)))
    (lMad : K.lookup fMad = some ⟨ocMad, odMad, .func (PySem.W.fnOf "_law_made" "_law_made" (defArgs sLawMade) (defBody sLawMade) (defScope sLawMade) .none kVMad dcMad pmMad anMad cdMad ctMad), slMad⟩)
    (cMad : PySem.W.codeIn K cdMad "_law_made" = true)
    (kMad : PySem.W.keepIn K (.ref fMad) = true)
    (aSam : PySem.W.nsIn K mainGlobals "_law_same" = some (some (.ref fSam)))
    (lSam : K.lookup fSam = some ⟨ocSam, odSam, .func (PySem.W.fnOf "_law_same" "_law_same" (defArgs sLawSame) (defBody sLawSame) (defScope sLawSame) .none kVSam dcSam pmSam anSam cdSam ctSam), slSam⟩)
    (cSam : PySem.W.codeIn K cdSam "_law_same" = true)
    (kSam : PySem.W.keepIn K (.ref fSam) = true)
    (aLin : PySem.W.nsIn K mainGlobals "_law_lines" = some (some (.ref fLin)))
    (lLin : K.lookup fLin = some ⟨ocLin, odLin, .func (PySem.W.fnOf "_law_lines" "_law_lines" (defArgs sLawLines) (defBody sLawLines) (defScope sLawLines) .none kVLin dcLin pmLin anLin cdLin ctLin), slLin⟩)
    (cLin : PySem.W.codeIn K cdLin "_law_lines" = true)
    (kLin : PySem.W.keepIn K (.ref fLin) = true)
    (aLaw : PySem.W.nsIn K mainGlobals "law" = some (some (.ref fLaw)))
    (lLaw : K.lookup fLaw = some ⟨ocLaw, odLaw, .func (PySem.W.fnOf "law" "law" (defArgs sLaw) (defBody sLaw) (defScope sLaw) .none kVLaw dcLaw pmLaw anLaw cdLaw ctLaw), slLaw⟩)
    (cLaw : PySem.W.codeIn K cdLaw "law" = true)
    (kLaw : PySem.W.keepIn K (.ref fLaw) = true)
    (zlen : PySem.W.nsIn K mainGlobals "len" = some none)
    (zall : PySem.W.nsIn K mainGlobals "all" = some none)
    (ztuple : PySem.W.nsIn K mainGlobals "tuple" = some none)
    (zenumerate : PySem.W.nsIn K mainGlobals "enumerate" = some none)
    (zabs : PySem.W.nsIn K mainGlobals "abs" = some none)
    (zint : PySem.W.nsIn K mainGlobals "int" = some none)
    (zrange : PySem.W.nsIn K mainGlobals "range" = some none)
    (zmax : PySem.W.nsIn K mainGlobals "max" = some none)
    (zmin : PySem.W.nsIn K mainGlobals "min" = some none)
    (zlist : PySem.W.nsIn K mainGlobals "list" = some none)
    (zisinstance : PySem.W.nsIn K mainGlobals "isinstance" = some none)
    (zstr : PySem.W.nsIn K mainGlobals "str" = some none)
    (aWIRE : PySem.W.nsIn K mainGlobals "WIRE" = some (some (.str "-" tw)))
    : ∃ fd : FuncData, (∀ (s : Shared) (v : Value), BindsTo s fd ⟨[v], []⟩ [("script", v)]) ∧ ∀ base : Heap, K.In base → base.Ns mainGlobals mg → FnOk l.prog w K mg base CX0 8 fa fd ["script"] (spLaw K) := by
  have e := hfa.symm.trans (PySem.W.mg_of X G aLaw)
  cases e
  have FCsp := fun_mk (st := sBoardCheckSpans) lCsp cCsp kCsp
  have bCsp := FCsp.binds (ps := ["self"]) fun _ _ _ _ _ _ us hl => match us, hl with | [_], _ => rfl
  have FCnm := fun_mk (st := sBoardCheckNames) lCnm cCnm kCnm
  have bCnm := FCnm.binds (ps := ["self"]) fun _ _ _ _ _ _ us hl => match us, hl with | [_], _ => rfl
  have FCct := fun_mk (st := sBoardCheckContacts) lCct cCct kCct
  have bCct := FCct.binds (ps := ["self"]) fun _ _ _ _ _ _ us hl => match us, hl with | [_], _ => rfl
  have FIni := fun_mk (st := sBoardInit) lIni cIni kIni
  have FWou := fun_mk (st := sBoardWithoutContact) lWou cWou kWou
  have bWou := FWou.binds (ps := ["self", "number"]) fun _ _ _ _ _ _ us hl => match us, hl with | [_, _], _ => rfl
  have FWic := fun_mk (st := sBoardWithContacts) lWic cWic kWic
  have bWic := FWic.binds (ps := ["self", "contacts"]) fun _ _ _ _ _ _ us hl => match us, hl with | [_, _], _ => rfl
  have T : BTxt K mg C (.type "type") fIsn fIsn := ⟨⟨pg, hd, po, sa⟩, nN, nS, nR, nL, nC, nM, PySem.W.mg_of X G aC, PySem.W.mg_of X G aIsn, ⟨rd, ga⟩, ⟨_, m1⟩, ⟨_, m2⟩, ⟨_, m3⟩, ⟨_, m4⟩, ⟨_, m5⟩,
    ⟨_, PySem.W.mg_of X G q1⟩, ⟨_, PySem.W.mg_of X G q2⟩, ⟨_, PySem.W.mg_of X G q3⟩, ⟨_, PySem.W.mg_of X G q4⟩,
    ⟨_, PySem.W.mg_of X G bW, fun H => .inr ⟨_, _, _, eW, rfl, rfl, by show 2 ≤ sizeLine; decide, .cons ⟨_, rfl⟩ (.cons ⟨_, rfl⟩ .nil)⟩⟩, ⟨_, PySem.W.mg_of X G bY, fun H => .inr ⟨_, _, _, eY, rfl, rfl, by show 2 ≤ sizeLine; decide, .cons ⟨_, rfl⟩ (.cons ⟨_, rfl⟩ .nil)⟩⟩,
    PySem.W.mg_none_of X G zlen, PySem.W.mg_none_of X G zall, PySem.W.mg_none_of X G ztuple, PySem.W.mg_none_of X G zenumerate⟩
  have FIsn := fun_mk (st := sIsGoodName) lIsn cIsn kIsn
  have bIsn := FIsn.binds (ps := ["text"]) fun _ _ _ _ _ _ us hl => match us, hl with | [_], _ => rfl
  have gIsn := PySem.W.mg_of X G aIsn
  have FArn := fun_mk (st := sAreNames) lArn cArn kArn
  have bArn := FArn.binds (ps := ["names", "least", "most"]) fun _ _ _ _ _ _ us hl => match us, hl with | [_, _, _], _ => rfl
  have gArn := PySem.W.mg_of X G aArn
  have FSpn := fun_mk (st := sIsSpan) lSpn cSpn kSpn
  have bSpn := FSpn.binds (ps := ["part", "nodes"]) fun _ _ _ _ _ _ us hl => match us, hl with | [_, _], _ => rfl
  have gSpn := PySem.W.mg_of X G aSpn
  have FCnt := fun_mk (st := sIsContact) lCnt cCnt kCnt
  have bCnt := FCnt.binds (ps := ["part", "nodes", "movers"]) fun _ _ _ _ _ _ us hl => match us, hl with | [_, _, _], _ => rfl
  have gCnt := PySem.W.mg_of X G aCnt
  have FChn := fun_mk (st := sCheckNumber) lChn cChn kChn
  have bChn := FChn.binds (ps := ["number", "count"]) fun _ _ _ _ _ _ us hl => match us, hl with | [_, _], _ => rfl
  have gChn := PySem.W.mg_of X G aChn
  have FFmt := fun_mk (st := sFormatBoard) lFmt cFmt kFmt
  have bFmt := FFmt.binds (ps := ["board"]) fun _ _ _ _ _ _ us hl => match us, hl with | [_], _ => rfl
  have gFmt := PySem.W.mg_of X G aFmt
  have FRow := fun_mk (st := sLawRow) lRow cRow kRow
  have bRow := FRow.binds (ps := ["cell", "many"]) fun _ _ _ _ _ _ us hl => match us, hl with | [_, _], _ => rfl
  have gRow := PySem.W.mg_of X G aRow
  have FNum := fun_mk (st := sLawNumbers) lNum cNum kNum
  have bNum := FNum.binds (ps := ["script", "many"]) fun _ _ _ _ _ _ us hl => match us, hl with | [_, _], _ => rfl
  have gNum := PySem.W.mg_of X G aNum
  have FNms := fun_mk (st := sLawNames) lNms cNms kNms
  have bNms := FNms.binds (ps := ["numbers", "at", "many"]) fun _ _ _ _ _ _ us hl => match us, hl with | [_, _, _], _ => rfl
  have gNms := PySem.W.mg_of X G aNms
  have FCou := fun_mk (st := sLawCount) lCou cCou kCou
  have bCou := FCou.binds (ps := ["number", "least", "most"]) fun _ _ _ _ _ _ us hl => match us, hl with | [_, _, _], _ => rfl
  have gCou := PySem.W.mg_of X G aCou
  have FTwo := fun_mk (st := sLawTwo) lTwo cTwo kTwo
  have bTwo := FTwo.binds (ps := ["one", "other", "nodes"]) fun _ _ _ _ _ _ us hl => match us, hl with | [_, _, _], _ => rfl
  have gTwo := PySem.W.mg_of X G aTwo
  have FLco := fun_mk (st := sLawContact) lLco cLco kLco
  have bLco := FLco.binds (ps := ["numbers", "at", "nodes", "movers"]) fun _ _ _ _ _ _ us hl => match us, hl with | [_, _, _, _], _ => rfl
  have gLco := PySem.W.mg_of X G aLco
  have FLoa := fun_mk (st := sLawLoads) lLoa cLoa kLoa
  have bLoa := FLoa.binds (ps := ["numbers", "at", "names", "nodes"]) fun _ _ _ _ _ _ us hl => match us, hl with | [_, _, _, _], _ => rfl
  have gLoa := PySem.W.mg_of X G aLoa
  have FPar := fun_mk (st := sLawParts) lPar cPar kPar
  have bPar := FPar.binds (ps := ["numbers"]) fun _ _ _ _ _ _ us hl => match us, hl with | [_], _ => rfl
  have gPar := PySem.W.mg_of X G aPar
  have FMad := fun_mk (st := sLawMade) lMad cMad kMad
  have bMad := FMad.binds (ps := ["parts"]) fun _ _ _ _ _ _ us hl => match us, hl with | [_], _ => rfl
  have gMad := PySem.W.mg_of X G aMad
  have FSam := fun_mk (st := sLawSame) lSam cSam kSam
  have bSam := FSam.binds (ps := ["board", "parts"]) fun _ _ _ _ _ _ us hl => match us, hl with | [_, _], _ => rfl
  have gSam := PySem.W.mg_of X G aSam
  have FLin := fun_mk (st := sLawLines) lLin cLin kLin
  have bLin := FLin.binds (ps := ["parts"]) fun _ _ _ _ _ _ us hl => match us, hl with | [_], _ => rfl
  have gLin := PySem.W.mg_of X G aLin
  have FLaw := fun_mk (st := sLaw) lLaw cLaw kLaw
  have gLaw := PySem.W.mg_of X G aLaw
  have Y : Txt mg := ⟨PySem.W.mg_none_of X G zabs, PySem.W.mg_none_of X G zint, PySem.W.mg_none_of X G zrange, PySem.W.mg_none_of X G zmax, PySem.W.mg_none_of X G zmin, PySem.W.mg_none_of X G zlist, PySem.W.mg_none_of X G zisinstance, PySem.W.mg_none_of X G zstr⟩
  refine ⟨PySem.W.fnOf "law" "law" (defArgs sLaw) (defBody sLaw) (defScope sLaw) .none kVLaw dcLaw pmLaw anLaw cdLaw ctLaw, fun s v => .of_eq rfl, fun base _ _ => ?_⟩
  have M : Mk K C fIni := ⟨mk, aIni, iIni, kc⟩
  have GI : FnOk l.prog w K mg base CX0 4 fIni _ ["self", "nodes", "lamps", "switches", "relays", "contacts"] (spInit K C) := ok_init FIni T ⟨⟨aCsp, iCsp, kCsp⟩, ⟨aCnm, iCnm, kCnm⟩, ⟨aCct, iCct, kCct⟩⟩ FCsp bCsp FCnm bCnm FCct bCct FSpn bSpn gSpn FArn bArn gArn FCnt bCnt gCnt FIsn bIsn (fI1 := fSpn) (fI2 := fArn) (fI3 := fCnt)
  have GR : FnOk l.prog w K mg base CX0 1 fRow _ ["cell", "many"] spRow := ok_row FRow Y.abs Y.range
  have GN : FnOk l.prog w K mg base CX0 2 fNum _ ["script", "many"] (spNumbers K) := ok_numbers FNum kRow bRow gRow GR Y.max T.len
  have GP : FnOk l.prog w K mg base CX0 3 fPar _ ["numbers"] (spParts K) := ok_parts FPar FNms bNms gNms FCou bCou gCou FTwo bTwo gTwo FLoa bLoa gLoa FLco bLco gLco Y.int Y.range T.len Y.min
  have GQ : FnOk l.prog w K mg base CX0 6 fMad _ ["parts"] (spMade K C) := ok_made FMad M FIni T.mgB Y.list GI
  have GW : FnOk l.prog w K mg base CX0 6 fWic _ ["self", "contacts"] (spWithC K C) := ok_withC FWic T M FIni GI
  have GO : FnOk l.prog w K mg base CX0 7 fWou _ ["self", "number"] (spWithout K C) := ok_without FWou T FChn bChn gChn FWic bWic ⟨aWic, iWic, kWic⟩ GW
  exact ok_law FLaw T Y (PySem.W.mg_of X G aWIRE) FNum bNum gNum GN FPar bPar gPar GP FMad bMad gMad GQ FSam bSam gSam FFmt bFmt gFmt FLin bLin gLin bWou ⟨aWou, iWou, kWou⟩ GO
end Lv
open PySem PySem.W PyProof.Rows
set_option maxRecDepth 100000 in
set_option maxHeartbeats 0 in
theorem PySem.Challenge.cw_leverhouse_k06_written_form_holds : PySem.Challenge.rw_leverhouse_k06_written_form.Holds := by
  w_on; o_law; k_head; (case hw => w_witness2)
  k_fill
  refine L2.walk_of (l := PySem.Challenge.rw_leverhouse_k06_written_form) (n := 63) (k := 8) (x := "script") (CX := fun _ => L2.CX0) (sp := fun w => Lv.spLaw _) rfl (by decide) rfl ⟨rfl, by decide, by decide⟩ (fun w h Y => PySem.W.kIn_of Y) ?F (fun _ _ a ns hl _ hS => ⟨a, ns, rfl, hS, hl, fun _ => rfl⟩) (fun _ _ _ _ _ h => h)
  case F =>
    intro w mg fa h KX G hmg
    refine' Lv.all_mk KX G hmg ?aC ?pg ?hd ?po ?sa ?mk ?kc ?rd ?ga ?nN ?nS ?nR ?nL ?nC ?nM ?m1 ?m2 ?m3 ?m4 ?m5 ?q1 ?q2 ?q3 ?q4 ?bW ?eW ?bY ?eY ?aCsp ?iCsp ?lCsp ?cCsp ?kCsp ?aCnm ?iCnm ?lCnm ?cCnm ?kCnm ?aCct ?iCct ?lCct ?cCct ?kCct ?aIni ?iIni ?lIni ?cIni ?kIni ?aWou ?iWou ?lWou ?cWou ?kWou ?aWic ?iWic ?lWic ?cWic ?kWic ?aIsn ?lIsn ?cIsn ?kIsn ?aArn ?lArn ?cArn ?kArn ?aSpn ?lSpn ?cSpn ?kSpn ?aCnt ?lCnt ?cCnt ?kCnt ?aChn ?lChn ?cChn ?kChn ?aFmt ?lFmt ?cFmt ?kFmt ?aRow ?lRow ?cRow ?kRow ?aNum ?lNum ?cNum ?kNum ?aNms ?lNms ?cNms ?kNms ?aCou ?lCou ?cCou ?kCou ?aTwo ?lTwo ?cTwo ?kTwo ?aLco ?lLco ?cLco ?kLco ?aLoa ?lLoa ?cLoa ?kLoa ?aPar ?lPar ?cPar ?kPar ?aMad ?lMad ?cMad ?kMad ?aSam ?lSam ?cSam ?kSam ?aLin ?lLin ?cLin ?kLin ?aLaw ?lLaw ?cLaw ?kLaw ?zlen ?zall ?ztuple ?zenumerate ?zabs ?zint ?zrange ?zmax ?zmin ?zlist ?zisinstance ?zstr ?aWIRE
    (case aC => k_is); (case pg => k_is); (case hd => k_is); (case po => k_is); (case sa => k_is); (case mk => k_is); (case kc => k_is); (case rd => k_is); (case ga => k_is); (case nN => k_is); (case nS => k_is); (case nR => k_is); (case nL => k_is); (case nC => k_is); (case nM => k_is); (case m1 => k_is); (case m2 => k_is); (case m3 => k_is); (case m4 => k_is); (case m5 => k_is); (case q1 => k_is); (case q2 => k_is); (case q3 => k_is); (case q4 => k_is); (case bW => k_is); (case eW => k_is); (case bY => k_is); (case eY => k_is); (case aCsp => k_is); (case iCsp => k_is); (case lCsp => k_is); (case cCsp => k_is); (case kCsp => k_is); (case aCnm => k_is); (case iCnm => k_is); (case lCnm => k_is); (case cCnm => k_is); (case kCnm => k_is); (case aCct => k_is); (case iCct => k_is); (case lCct => k_is); (case cCct => k_is); (case kCct => k_is); (case aIni => k_is); (case iIni => k_is); (case lIni => k_is); (case cIni => k_is); (case kIni => k_is); (case aWou => k_is); (case iWou => k_is); (case lWou => k_is); (case cWou => k_is); (case kWou => k_is); (case aWic => k_is); (case iWic => k_is); (case lWic => k_is); (case cWic => k_is); (case kWic => k_is); (case aIsn => k_is); (case lIsn => k_is); (case cIsn => k_is); (case kIsn => k_is); (case aArn => k_is); (case lArn => k_is); (case cArn => k_is); (case kArn => k_is); (case aSpn => k_is); (case lSpn => k_is); (case cSpn => k_is); (case kSpn => k_is); (case aCnt => k_is); (case lCnt => k_is); (case cCnt => k_is); (case kCnt => k_is); (case aChn => k_is); (case lChn => k_is); (case cChn => k_is); (case kChn => k_is); (case aFmt => k_is); (case lFmt => k_is); (case cFmt => k_is); (case kFmt => k_is); (case aRow => k_is); (case lRow => k_is); (case cRow => k_is); (case kRow => k_is); (case aNum => k_is); (case lNum => k_is); (case cNum => k_is); (case kNum => k_is); (case aNms => k_is); (case lNms => k_is); (case cNms => k_is); (case kNms => k_is); (case aCou => k_is); (case lCou => k_is); (case cCou => k_is); (case kCou => k_is); (case aTwo => k_is); (case lTwo => k_is); (case cTwo => k_is); (case kTwo => k_is); (case aLco => k_is); (case lLco => k_is); (case cLco => k_is); (case kLco => k_is); (case aLoa => k_is); (case lLoa => k_is); (case cLoa => k_is); (case kLoa => k_is); (case aPar => k_is); (case lPar => k_is); (case cPar => k_is); (case kPar => k_is); (case aMad => k_is); (case lMad => k_is); (case cMad => k_is); (case kMad => k_is); (case aSam => k_is); (case lSam => k_is); (case cSam => k_is); (case kSam => k_is); (case aLin => k_is); (case lLin => k_is); (case cLin => k_is); (case kLin => k_is); (case aLaw => k_is); (case lLaw => k_is); (case cLaw => k_is); (case kLaw => k_is); (case zlen => k_is); (case zall => k_is); (case ztuple => k_is); (case zenumerate => k_is); (case zabs => k_is); (case zint => k_is); (case zrange => k_is); (case zmax => k_is); (case zmin => k_is); (case zlist => k_is); (case zisinstance => k_is); (case zstr => k_is); (case aWIRE => k_is)

