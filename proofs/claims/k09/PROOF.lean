import PyProof.Rows.All
import Wide.All
import OpenK.AllK
import Wide.FinOn
import HandS.ForMost
import HandS.IsInst
import HandS.Walk
import HandS.TupAny
import HandS.Property
import HandS.ClsMeth
import HandS.MakeKwOnly
import HandS.Star
import KE.GoesEnum
import KE.GoesMore
import HandS.Exc
import HandS.TryOnly
import HandS.ExcOwn
import HandS.WordsExc
import HandS.RaiseMore
import HandS.FStr
import HandS.FStrTup
import HandS.Codes
import PySem.Challenge.RW_leverhouse_k09_names
set_option Elab.async false
set_option linter.all false
set_option maxRecDepth 100000
set_option maxHeartbeats 1000000
namespace Lv
open PySem PySem.Spec PyProof.Rows L2
def topS (i : Nat) : Stmt := PySem.Challenge.pw_leverhouse_k09_names.main.body.getD i (.Pass ⟨0, 0, 0, 0⟩)
abbrev sWall : Stmt := topS 0
abbrev sIsGoodName : Stmt := topS 11
abbrev sAreNames : Stmt := topS 12
abbrev sIsSpan : Stmt := topS 13
abbrev sIsContact : Stmt := topS 14
abbrev sBoardInit : Stmt := inClass (topS 15) 5
abbrev sBoardCheckSpans : Stmt := inClass (topS 15) 6
abbrev sBoardCheckNames : Stmt := inClass (topS 15) 7
abbrev sBoardCheckContacts : Stmt := inClass (topS 15) 8
abbrev sBoardIsName : Stmt := inClass (topS 15) 9
abbrev sBoardPlus : Stmt := inClass (topS 15) 10
abbrev sBoardMinus : Stmt := inClass (topS 15) 11
abbrev sBoardMovers : Stmt := inClass (topS 15) 12
abbrev sBoardMoverNumber : Stmt := inClass (topS 15) 13
abbrev sBoardIsSwitch : Stmt := inClass (topS 15) 14
abbrev sBoardContactsOf : Stmt := inClass (topS 15) 15
abbrev sBoardContactsAt : Stmt := inClass (topS 15) 16
abbrev sBoardWires : Stmt := inClass (topS 15) 17
abbrev sBoardReplaceContact : Stmt := inClass (topS 15) 18
abbrev sBoardInsertContact : Stmt := inClass (topS 15) 19
abbrev sBoardWithoutContact : Stmt := inClass (topS 15) 20
abbrev sBoardWithContacts : Stmt := inClass (topS 15) 21
abbrev sLawRow : Stmt := topS 17
abbrev sLawNumbers : Stmt := topS 18
abbrev sLawTaken : Stmt := topS 19
abbrev sLawRelay : Stmt := topS 20
abbrev sLaw : Stmt := topS 21

/-! ### strings and numbers -/
def alph : List Nat := ("abcdefghijklmnopqrstuvwxyz0123456789" : Str).cps.toList
theorem alph_len : alph.length = 36 := by decide +kernel
theorem alph_lt : ∀ c ∈ alph, c < 1114112 := by decide +kernel
/-- letters and figures alone -/
def Al (z : Str) : Prop := ∀ c ∈ z.cps.toList, c ∈ alph
/-- a name: 1 to 12 letters and figures -/
def Nm (z : Str) : Prop := 1 ≤ z.length ∧ z.length ≤ 12 ∧ Al z
def Nums (ns : List Int) : Prop := ∀ n ∈ ns, 0 ≤ n ∧ n < 1009
theorem len_tl (z : Str) : z.length = z.cps.toList.length := by
  show z.cps.size = z.cps.toList.length
  rw [Array.length_toList]
theorem app_tl (a b : Str) : (a ++ b).cps.toList = a.cps.toList ++ b.cps.toList := by
  show (a.cps ++ b.cps).toList = _
  rw [Array.toList_append]
theorem app_len (a b : Str) : (a ++ b).length = a.length + b.length := by
  rw [len_tl, len_tl, len_tl, app_tl, List.length_append]
theorem Al.app {a b : Str} (h1 : Al a) (h2 : Al b) : Al (a ++ b) := by
  intro c hc
  rw [app_tl, List.mem_append] at hc
  rcases hc with hc | hc
  · exact h1 c hc
  · exact h2 c hc
theorem Al.ok {z : Str} (h : Al z) : PyData.strOk z = true := by
  unfold PyData.strOk
  rw [← Array.all_toList, List.all_eq_true]
  intro c hc
  exact decide_eq_true (alph_lt c (h c hc))
theorem str_ext {a b : Str} (h : a.cps.toList = b.cps.toList) : a = b := by
  cases a; cases b
  exact congrArg Str.mk (Array.toList_inj.mp h)
theorem cut_take (z : Str) (p : Nat) : (cutS z none (some (p : Int))).cps.toList = z.cps.toList.take p := by
  unfold cutS
  rw [HT.sIx_nat, HT.sIx_none, List.drop_zero, Nat.sub_zero, len_tl]
  show (List.take (min p z.cps.toList.length) z.cps.toList).toArray.toList = _
  exact List.take_eq_take_min.symm
theorem cut_drop (z : Str) (p : Nat) : (cutS z (some (p : Int)) none).cps.toList = z.cps.toList.drop p := by
  unfold cutS
  rw [HT.sIx_nat, HT.sIx_none, len_tl]
  show (List.take (z.cps.toList.length - min p z.cps.toList.length) (List.drop (min p z.cps.toList.length) z.cps.toList)).toArray.toList = _
  by_cases h : p ≤ z.cps.toList.length
  · rw [Nat.min_eq_left h]
    exact List.take_of_length_le (by rw [List.length_drop]; exact Nat.le_refl _)
  · rw [Nat.min_eq_right (by omega), List.drop_length, List.drop_eq_nil_of_le (by omega)]
    simp
theorem join_ok : ∀ zs : List Str, (∀ z ∈ zs, z.length = 1 ∧ Al z) → (Str.join "" zs).length = zs.length ∧ Al (Str.join "" zs)
  | [], _ => ⟨rfl, fun c hc => by cases hc⟩
  | [x], h => ⟨(h x (List.mem_singleton.mpr rfl)).1, (h x (List.mem_singleton.mpr rfl)).2⟩
  | x :: y :: r, h => by
    have ih := join_ok (y :: r) fun z hz => h z (List.mem_cons_of_mem _ hz)
    have hx := h x List.mem_cons_self
    have e0 : ("" : Str).length = 0 := by decide +kernel
    have a0 : Al ("" : Str) := fun c hc => by cases hc
    show (x ++ ("" : Str) ++ Str.join "" (y :: r)).length = _ ∧ Al (x ++ ("" : Str) ++ Str.join "" (y :: r))
    refine ⟨?_, (hx.2.app a0).app ih.2⟩
    rw [app_len, app_len, hx.1, e0, ih.1]
    show 1 + 0 + (y :: r).length = (y :: r).length + 1
    omega
theorem at_in {α : Type} (xs : List α) (i : Int) (h0 : 0 ≤ i) (h1 : i < (xs.length : Int)) : ∃ v, v ∈ xs ∧ xs[i.toNat]? = some v ∧ atI xs i = some v := by
  have hl : i.toNat < xs.length := by omega
  refine ⟨xs[i.toNat], List.getElem_mem hl, List.getElem?_eq_getElem hl, ?_⟩
  have e := atI_nat (xs := xs) (j := i.toNat) (List.getElem?_eq_getElem hl)
  rwa [Int.toNat_of_nonneg h0] at e
theorem at_num {ns : List Int} (hn : Nums ns) (i : Int) (h0 : 0 ≤ i) (h1 : i < (ns.length : Int)) : ∃ n, 0 ≤ n ∧ n < 1009 ∧ atI (ns.map V.int) i = some (.int n) := by
  obtain ⟨v, hv, _, e⟩ := at_in (ns.map V.int) i h0 (by rw [List.length_map]; exact h1)
  obtain ⟨n, hm, rfl⟩ := List.mem_map.mp hv
  exact ⟨n, (hn n hm).1, (hn n hm).2, e⟩
theorem Nums.snoc {ns : List Int} (h : Nums ns) {n : Int} (h0 : 0 ≤ n) (h1 : n < 1009) : Nums (ns ++ [n]) := by
  intro m hm
  rw [List.mem_append, List.mem_singleton] at hm
  rcases hm with hm | rfl
  · exact h m hm
  · exact ⟨h0, h1⟩
/-! ### heaps -/
theorem same_upd {H : Hp} {p : Addr} {o : HO} (h : H p = none) : Same H (upd H p o) := fun b x e => by
  rw [upd_ne (ne_of_none e h)]
  exact e
/-- what H does not know may change -/
theorem same_mut {H H2 : Hp} {p : Addr} {o : HO} (s : Same H H2) (h : H p = none) : Same H (upd H2 p o) := fun b x e => by
  rw [upd_ne (ne_of_none e h)]
  exact s _ _ e
theorem sq {K : PySem.W.Frag} {H : Hp} {a : Addr} {xs : List V} (h : H a = some (.lst xs)) : SqL K H a xs := .inl (.inl h)
theorem st {K : PySem.W.Frag} {H : Hp} {a : Addr} {xs : List V} (h : H a = some (.tup xs)) : SqT K H a xs := .inl (.inl h)
theorem szl {n : Nat} (h : n ≤ 1000000) : n ≤ sizeLine := Nat.le_trans h (by decide)
theorem szlt {n : Nat} (h : n ≤ 1000000) : n < sizeLine := Nat.lt_of_le_of_lt h (by decide)
theorem map_snoc {α β : Type} (f : α → β) (xs : List α) (x : α) : (xs ++ [x]).map f = xs.map f ++ [f x] := by
  rw [List.map_append]
  rfl
theorem cut_list (xs : List V) (n : Nat) : cutV xs none (some (n : Int)) = xs.take n := by
  unfold cutV
  rw [HT.sIx_nat, HT.sIx_none, List.drop_zero, Nat.sub_zero, ← List.take_eq_take_min]
theorem yesT {σ : L2.St} {H : Hp} {A B : Hp → Prop} (h : A H) : tYes σ H (fun b H3 => if b = true then A H3 else B H3) := by
  show (if true = true then A H else B H)
  rw [if_pos rfl]
  exact h
/-! ### enumerate of a tuple -/
/-- the turns: the place and the item, in a new pair -/
def ItU (K : PySem.W.Frag) (a : Addr) : It :=
  ⟨fun i H => ∃ (xs : List V) (x : V), SqT K H a xs ∧ xs[i]? = some x, fun i H v G => ∃ T x, v = .ref T ∧ H T = none ∧ G = upd H T (.tup [.int (i : Nat), x]) ∧ ∀ xs, SqT K H a xs → xs[i]? = some x,
    fun i H => ∃ xs : List V, SqT K H a xs ∧ xs.length ≤ i⟩
theorem newU {v : Value} {o : Obj} {J : Heap → Prop} (B : Begins v o J) :
    Meets (Builtin.«enumerate.__new__» ⟨[.type "enumerate", v], []⟩) (fun _ R z => J z.heap ∧
      R (.ok (.ret (.ref (z.heap.push o).objs.size))) { z with heap := (z.heap.push o).push { cls := .type "enumerate", data := .fields #[.none, .bool false, .ref z.heap.objs.size, rawInt 0, .none, .none] } }) :=
  .of_wp fun prog wd A R z hz => by
    obtain ⟨hp, gn, dr, tk, os⟩ := z
    obtain ⟨j1, hr⟩ := hz
    have hsub := sub_enumerate
    have q1 : ∀ {B' : Around} {E2 : Value → Shared → Prop} {Q2 : Value → Shared → Prop}, Q2 (.ref hp.objs.size) ⟨hp.push o, gn, dr, tk, os⟩ → wpAny (model prog wd) B' (pyIter v) Q2 E2 ⟨hp, gn, dr, tk, os⟩ :=
      fun y => B.iter prog wd _ _ ⟨hp, gn, dr, tk, os⟩ _ j1 y
    wp_walk using q1
    refine wpAny_stack_any fun _ => wpAny_pure ?_
    split
    · rename_i c _ _ _ _ _
      cases (c == Value.type "enumerate") <;> (wp_walk using q1; exact ⟨_, rfl, hr⟩)
    · wp_walk using q1
      exact ⟨_, rfl, hr⟩
theorem callU {prog : Program} {wd : World} {A : Around} {E : Value → Shared → Prop} {z : Shared} {v : Value} {o : Obj} {J : Heap → Prop} {Q : Value → Shared → Prop} (B : Begins v o J) (j1 : J z.heap)
    (hq : ∀ g, IsEnum g (z.heap.objs.size + 1) z.heap.objs.size 0 .none → g.get? z.heap.objs.size = some o → (∀ b u, z.heap.get? b = some u → g.get? b = some u) → Q (.ref (z.heap.objs.size + 1)) { z with heap := g }) :
    wpAny (model prog wd) A (call (.type "enumerate") [v]) Q E z := by
  refine callType_new F.called_enumerate (by decide) (F.typeCall_enumerate_1 _) (F.newCall_enumerate_1 _) (fun ob => F.args_object_init_2 ob _) F.entry_enumerate_new (newU B) ⟨j1, ?_⟩
  have hsz : (z.heap.push o).objs.size = z.heap.objs.size + 1 := Heap.size_push ..
  show _ ∧ _
  rw [hsz]
  have hen : IsEnum ((z.heap.push o).push { cls := .type "enumerate", data := .fields #[.none, .bool false, .ref z.heap.objs.size, rawInt 0, .none, .none] }) (z.heap.objs.size + 1) z.heap.objs.size 0 .none := by
    have y := Heap.get?_push_size (z.heap.push o) (o := { cls := .type "enumerate", data := .fields #[.none, .bool false, .ref z.heap.objs.size, rawInt 0, .none, .none] }) rfl
    rwa [hsz] at y
  exact ⟨⟨_, hen, rfl⟩, hq _ hen (Heap.get?_push_of_some _ (Heap.get?_push_size _ B.free)) fun _ _ y => Heap.get?_push_of_some _ (Heap.get?_push_of_some _ y)⟩
theorem turnU {P : Program} {w : World} {K : PySem.W.Frag} {elts : List Expr} {kk : Nat} {tpos : Pos} (a e it : Addr) :
    Turn P w K (.Tuple elts kk tpos) (ItU K a) [e, it] e (fun i g => (∃ old, IsEnum g e it ((i : Nat) : Int) old) ∧ g.IsTupleIter it a i ∧ e ≠ it) where
  mem := by simp
  obj := fun i g y b hb => by
    obtain ⟨⟨old, he⟩, ⟨o, ho, _, hd⟩, _⟩ := y
    rcases (show b = e ∨ b = it by simpa using hb) with q | q
    · subst q
      exact ⟨_, he, fun v z => nomatch z⟩
    · subst q
      exact ⟨o, ho, fun v z => by rw [hd] at z; cases z⟩
  keep := fun i g g' y k => ⟨y.1.elim fun old he => ⟨old, k e (by simp) _ he⟩, y.2.1.at fun o q => k it (by simp) o q, y.2.2⟩
  item := by
    intro X hP hw hK hc i pins z σ H E I hf y hg
    subst hP hw hK
    obtain ⟨⟨old, he⟩, hit, hne⟩ := y
    obtain ⟨xs, x, hq, hx⟩ := hg
    obtain ⟨its, rv, tp, _⟩ := I.tuple hq
    obtain ⟨u, hu, ru⟩ := rv.get hx
    have hel : e < z.heap.objs.size := Heap.lt_size he
    have hil : it < z.heap.objs.size := by
      obtain ⟨_, q, _⟩ := hit
      exact Heap.lt_size q
    have hae : a ≠ e := fun q => by
      obtain ⟨o1, e1, e2, _⟩ := tp
      rw [q, he] at e1
      cases e1
      injection e2 with e5
      exact absurd e5 (by decide)
    have hai : a ≠ it := fun q => by
      obtain ⟨o1, e1, e2, _⟩ := tp
      obtain ⟨o3, e3, e4, _⟩ := hit
      rw [q, e3] at e1
      cases e1
      rw [e4] at e2
      injection e2 with e5
      exact absurd e5 (by decide)
    have lt : i < its.toArray.size := by
      have := (List.getElem?_eq_some_iff.mp hu).1
      simpa using this
    refine wpAny_pyNext_enum_itemC (Draws.tuple (prog := X.prog) (w := X.w) (A := X.A.in1) (I.ok.hd hc) it a hai its.toArray) he ⟨hit, tp⟩ lt hne (by simp [hne, hae.symm]) fun v g tk hv ho hs' hT hsz hk => ?_
    have ev : v = u := by
      rw [show its.toArray[i]? = some u by simpa using hu] at hv
      exact (Option.some.inj hv).symm
    subst ev
    refine ⟨_, rfl, wpAny_letOwnedTupleGo_enum (s := { z with heap := g, toks := tk + 1 }) ho fun g2 he2 sb => ?_⟩
    have hT2 : g2.get? z.heap.objs.size = some { cls := .type "tuple", data := .seq #[.int i tk, v] } := (sb.2 _ (Nat.ne_of_gt hel)).trans hT
    have nw : ObjOk X.prog X.w (upd H z.heap.objs.size (.tup [.int (i : Nat), x])) g2 z.heap.objs.size (.tup [.int (i : Nat), x]) :=
      ⟨by show 2 ≤ sizeLine; decide, [.int i tk, v], .cons ⟨_, rfl⟩ (.cons ru .nil), ⟨_, hT2, rfl, _, rfl⟩⟩
    have I1 : Inv X pins σ (upd H z.heap.objs.size (.tup [.int (i : Nat), x])) { z with heap := g2, toks := tk + 1 } :=
      I.turnedNew (ch := [e, it]) (fun b ob hb q => (sb.2 b (fun m => hb (by simp [m]))).trans (hk b ob (fun m => hb (by simp [m])) (fun m => hb (by simp [m])) q)) hf (Nat.le_refl _) nw
    refine ⟨.ref z.heap.objs.size, _, I1, rfl, ⟨_, x, rfl, I.hok.fresh (Nat.le_refl _), rfl, fun ys hy => by rw [I.tuple_inj hy hq]; exact hx⟩, ⟨⟨v, ?_⟩, hs'.1.at fun o q => (sb.2 it (Ne.symm hne)).trans q, hne⟩, fun b hb => ?_⟩
    · rw [show ((i + 1 : Nat) : Int) = (i : Int) + 1 by omega]
      exact he2
    · have lb : b < z.heap.objs.size := by
        rcases (show b = e ∨ b = it by simpa using hb) with q | q
        · rw [q]; exact hel
        · rw [q]; exact hil
      rw [upd_ne (Nat.ne_of_lt lb)]
      exact (hf b hb).1
  done := by
    intro X hP hw hK hc i pins z σ H E I hf y hg
    subst hP hw hK
    obtain ⟨⟨old, he⟩, hit, hne⟩ := y
    obtain ⟨xs, hq, hx⟩ := hg
    obtain ⟨its, rv, tp, _⟩ := I.tuple hq
    obtain ⟨f0, f1, f2, f3, f4, f5⟩ := hf it (by simp)
    have hT : z.TypeIs (.ref e) "enumerate" := ⟨_, he, rfl⟩
    unfold pyNext
    refine wpAny_bind (wpAny_attempt (wpAny_callSpecial?_slot (name := Str.ofString "__next__") hT F.slot_enumerate_next (wpAny_call_entry F.slot_enumerate_next hT F.entry_enumerate_next ?_ (F.args_enumerate_next_1 _))))
    show wpAny _ _ (field (.ref e) 2 >>= _) _ _ _
    refine wpAny_bind (wpAny_field he rfl (x := .ref it) rfl ?_)
    refine wpAny_bind (wpAny_nextOf_tuple_end (I.ok.hd hc) hit tp (by
      have hl := rv.length
      simp
      omega) fun g x eb hx' => ?_)
    obtain ⟨o, ho, hcl⟩ := hx'
    refine wpAny_bind (wpAny_isInstance (T := "StopIteration") (b := true) ⟨o, ho, hcl⟩ isSubtype_stop ?_)
    exact wpAny_pure ⟨rfl, I.turned (t' := z.toks) (fun b o hb q => eb b o hb q) f0 f1 f3 f4 f5⟩
  self := fun _ _ _ _ _ y q => y.1.elim fun _ he => wpAny_pyIter_enum he q
def iEnumT (K : PySem.W.Frag) (ta : TA) : TI := fun σ H R => ta σ H fun vs H1 => ∃ a xs, vs = [.ref a] ∧ SqT K H1 a xs ∧ R (ItU K a) H1
theorem pi_enumT {X : Cx} {e : Expr} {ta : TA} {p pos tpos : Pos} {elts : List Expr} {kk : Nat} (hg : Gl X "enumerate") (hm : X.mg "enumerate" = none) (ha : PA X [e] ta) (hs : starEach [e] X.env = [(false, eval e X.env)] := by rfl) :
    PI X (.Tuple elts kk tpos) (.Call (.Name "enumerate" p) [e] [] pos) (iEnumT X.K ta) := by
  refine ⟨fun pins z σ H R I h => ?_⟩
  refine Call_ (ld_blt I hg hm boot_enumerate (PyProof.Rows.callWith_type1 (thn (ha.run pos pins z σ H _ I h) fun us z1 ⟨vs, H1, I1, r1, q1⟩ => ?_) hs rfl))
  obtain ⟨a, xs, ex, hq, q⟩ := q1
  subst ex
  cases r1 with
  | cons r rr =>
    cases rr
    cases r
    obtain ⟨its, rv, tp, _⟩ := I1.tuple hq
    refine callU (begins_tuple a its.toArray) tp fun g he hit hk => wpAny_pyIter_enum he ?_
    have I2 : Inv X pins σ H1 { z1 with heap := g } := I1.kept (t' := z1.toks) hk
    refine ⟨z1.heap.objs.size + 1, [z1.heap.objs.size + 1, z1.heap.objs.size], _, _, H1, rfl, I2, turnU a (z1.heap.objs.size + 1) z1.heap.objs.size, ⟨⟨.none, he⟩, ⟨_, hit, rfl, rfl⟩, Nat.succ_ne_self _⟩, fun b hb => ?_, q⟩
    have lb : z1.heap.objs.size ≤ b := by
      rcases (show b = z1.heap.objs.size + 1 ∨ b = z1.heap.objs.size by simpa using hb) with m | m
      · rw [m]; exact Nat.le_add_right _ _
      · rw [m]; exact Nat.le_refl _
    exact I1.fpOk lb (I1.hok.fresh lb)
theorem walk_enumT {K : PySem.W.Frag} {a : Addr} {xs : List V} : Walk (ItU K a) xs.length (fun H => SqT K H a xs) (YPair (fun i => some (.int (i : Nat))) (fun i => xs[i]?)) := by
  refine ⟨fun i _ hi q => ⟨xs, xs[i], q, by simp [hi]⟩, fun _ q => ⟨xs, q, Nat.le_refl _⟩, fun i H v G _ q y => ?_⟩
  obtain ⟨T, x, h1, h2, h3, h4⟩ := y
  exact ⟨T, .int (i : Nat), x, h1, h2, h3, rfl, h4 xs q⟩
/-! ### a staticmethod called off its class -/
structure SMet (K : PySem.W.Frag) (C : Addr) (mc : Value) (m : Str) (p g : Addr) : Prop where
  rd : PySem.W.readsIn K C mc = true
  ga : PySem.W.specialIn K (.ref C) "__getattribute__" = some (some (.builtin "type.__getattribute__"))
  at_ : PySem.W.findCls K (.ref C) mc m = some (.get (.builtin "staticmethod.__get__") (.ref p) .none (.ref C))
  rc : ∃ rest, PySem.W.recIn K p "staticmethod" = some (.ref g :: rest)
  kp : PySem.W.keepIn K (.ref g) = true
def tSMeth (C : Addr) (sp : Sp) (E : XK) (ta : TE) (t : TA) : TE := fun σ H Q => ta σ H fun x H1 => x = .ref C ∧ t σ H1 fun vs H2 => sp vs H2 Q E
theorem pe_smeth {X : Cx} {CX : CXT} {k : Nat} {C p g : Addr} {mc : Value} {fd : FuncData} {ps : List Str} {sp : Sp} {E : XK} {o e : Expr} {es : List Expr} {m : Str} {pos apos : Pos} {ta : TE} {t : TA} {pl : Sem Bool}
    (he : PE X o ta) (c : SMet X.K C mc m p g) (F : FnOk X.prog X.w X.K X.mg X.base CX k g fd ps sp) (hr : Room k X.A) (hb : Binds X.K fd ps []) (hx : Passes CX X E) (ha : PA X (e :: es) t)
    (hst : starEach (e :: es) X.env = (false, eval e X.env) :: starEach es X.env := by rfl) (hpl : (backTo pos (starEach es X.env)).any (·.1) = false := by rfl)
    (ht : eval (.Call (.Attribute o m apos) (e :: es) [] pos) X.env = (do let ov ← eval o X.env; standAt apos.atName; let (f, first) ← holding [ov] (getMethod ov m pl); callWith pos f first (backTo pos (starEach (e :: es) X.env)) (backToKw pos (keywordEach [] X.env))) := by rfl) :
    PE X (.Call (.Attribute o m apos) (e :: es) [] pos) (tSMeth C sp E ta t) := by
  refine ⟨fun pins z σ H Q I h => PySem.W.methodCall_KW (pl := pl) (thn (he.run pins z σ H _ I h) fun u z1 ⟨x, H1, I1, rx, ex, q⟩ => ?_) ht⟩
  subst ex
  obtain rfl : u = Value.ref C := rx
  obtain ⟨rest, hp⟩ := c.rc
  refine PySem.W.method_cls I1.kIn c.ga (PySem.W.cls_bind I1.kIn c.rd c.at_ (wpAny_call (PySem.W.sm_get (s := { z1 with toks := z1.toks + 1 }) I1.kIn hp (PySem.W.handed_on rfl ?_))))
  have I2 : Inv X pins σ H1 { z1 with toks := z1.toks + 1 } := I1.tok _
  refine PySem.W.callWith_K (first := []) (h₀ := X.base) I.ok.mod.kin c.kp (thn (ha.run pos pins _ σ H1 _ I2 q) fun us z2 ⟨vs, H2, I3, r, q2⟩ => ⟨I3.kIn, ?_⟩) hst hpl
  exact run_fn (us := us) (vs := vs) (dvs := []) (ds := []) F hr hb .nil hx I3 r (by rw [List.append_nil]; exact q2)
/-! ### a list or a tuple -/
def Sq (K : PySem.W.Frag) (H : Hp) (a : Addr) (xs : List V) : Prop := SqL K H a xs ∨ SqT K H a xs
theorem Same.sqt {K : PySem.W.Frag} {H H' : Hp} {a : Addr} {xs : List V} (e : Same H H') (h : SqT K H a xs) : SqT K H' a xs := by
  rcases h with (h | ⟨o, h⟩) | h
  · exact .inl (.inl (e _ _ h))
  · exact .inl (.inr ⟨o, e _ _ h⟩)
  · exact .inr h
theorem Same.sq {K : PySem.W.Frag} {H H' : Hp} {a : Addr} {xs : List V} (e : Same H H') (h : Sq K H a xs) : Sq K H' a xs := h.elim (fun z => .inl (e.seq z)) fun z => .inr (Same.sqt e z)
def iEnumA (K : PySem.W.Frag) (ta : TA) : TI := fun σ H R => ta σ H fun vs H1 => ∃ a xs, vs = [.ref a] ∧ ((SqL K H1 a xs ∧ R (Ite K a) H1) ∨ (SqT K H1 a xs ∧ R (ItU K a) H1))
theorem pi_enumA {X : Cx} {e : Expr} {ta : TA} {p pos tpos : Pos} {elts : List Expr} {kk : Nat} (hg : Gl X "enumerate") (hm : X.mg "enumerate" = none) (ha : PA X [e] ta) (hs : starEach [e] X.env = [(false, eval e X.env)] := by rfl) :
    PI X (.Tuple elts kk tpos) (.Call (.Name "enumerate" p) [e] [] pos) (iEnumA X.K ta) := by
  refine ⟨fun pins z σ H R I h => ?_⟩
  refine Call_ (ld_blt I hg hm boot_enumerate (PyProof.Rows.callWith_type1 (thn (ha.run pos pins z σ H _ I h) fun us z1 ⟨vs, H1, I1, r1, q1⟩ => ?_) hs rfl))
  obtain ⟨a, xs, ex, hq⟩ := q1
  subst ex
  cases r1 with
  | cons r rr =>
    cases rr
    cases r
    have fp : ∀ b ∈ [z1.heap.objs.size + 1, z1.heap.objs.size], FpOk X pins H1 b := fun b hb => by
      have lb : z1.heap.objs.size ≤ b := by
        rcases (show b = z1.heap.objs.size + 1 ∨ b = z1.heap.objs.size by simpa using hb) with m | m
        · rw [m]; exact Nat.le_add_right _ _
        · rw [m]; exact Nat.le_refl _
      exact I1.fpOk lb (I1.hok.fresh lb)
    rcases hq with ⟨hq, q⟩ | ⟨hq, q⟩
    · obtain ⟨its, rv, tp, _⟩ := I1.list hq
      refine callU (begins_list a its.toArray) tp.isList fun g he hit hk => wpAny_pyIter_enum he ?_
      have I2 : Inv X pins σ H1 { z1 with heap := g } := I1.kept (t' := z1.toks) hk
      exact ⟨z1.heap.objs.size + 1, [z1.heap.objs.size + 1, z1.heap.objs.size], _, _, H1, rfl, I2, turn_enum a (z1.heap.objs.size + 1) z1.heap.objs.size, ⟨⟨.none, he⟩, ⟨_, hit, rfl, rfl⟩, Nat.succ_ne_self _⟩, fp, q⟩
    · obtain ⟨its, rv, tp, _⟩ := I1.tuple hq
      refine callU (begins_tuple a its.toArray) tp fun g he hit hk => wpAny_pyIter_enum he ?_
      have I2 : Inv X pins σ H1 { z1 with heap := g } := I1.kept (t' := z1.toks) hk
      exact ⟨z1.heap.objs.size + 1, [z1.heap.objs.size + 1, z1.heap.objs.size], _, _, H1, rfl, I2, turnU a (z1.heap.objs.size + 1) z1.heap.objs.size, ⟨⟨.none, he⟩, ⟨_, hit, rfl, rfl⟩, Nat.succ_ne_self _⟩, fp, q⟩
def rSlB (K : PySem.W.Frag) : V → Option Int → Option Int → Hp → VK → Prop := fun x lo hi H Q => rSlL K x lo hi H Q ∨ rSlA K x lo hi H Q
theorem sl_any {X : Cx} : SlR X (rSlB X.K) := by
  intro pins z σ H x v vl vu lo hi sl Q I rx hs pl pu h
  rcases h with h | h
  · exact sl_list pins z σ H x v vl vu lo hi sl Q I rx hs pl pu h
  · exact sl_tupA pins z σ H x v vl vu lo hi sl Q I rx hs pl pu h
/-- what a slice hands on, in both cases: a list or tuple of the part -/
theorem cut_any {K : PySem.W.Frag} {a : Addr} {xs : List V} {lo hi : Option Int} {H : Hp} {Q : VK} (h : Sq K H a xs) (q : ∀ p H', Same H H' → Sq K H' p (cutV xs lo hi) → (∀ b, H b ≠ none → H' b = H b) → Q (.ref p) H') : rSlB K (.ref a) lo hi H Q := by
  rcases h with h | h
  · exact .inl ⟨a, xs, rfl, h, fun p np => q p _ (same_upd np) (.inl (sq upd_same)) fun b hb => upd_ne fun e => hb (e ▸ np)⟩
  · refine .inr ⟨a, xs, rfl, h, fun ⟨e1, e2⟩ => q a H (Same.refl H) (.inr ?_) fun _ _ => rfl, fun _ p np => q p _ (same_upd np) (.inr (st upd_same)) fun b hb => upd_ne fun e => hb (e ▸ np)⟩
    unfold cutV
    rw [e1, e2, List.drop_zero, Nat.sub_zero, List.take_length]
    exact h
/-- x in xs -/
theorem inV_str (x : Str) (xs : List Str) : inV (.str x) (xs.map V.str) = decide (x ∈ xs) := by
  unfold inV
  induction xs with
  | nil => rfl
  | cons y r ih =>
    rw [List.map_cons, List.any_cons, ih]
    show (y == x || decide (x ∈ r)) = decide (x ∈ y :: r)
    by_cases e : y = x
    · subst e
      simp
    · have e2 : ¬ x = y := fun z => e z.symm
      simp [e, e2]
theorem flat_strs (xs : List Str) : (xs.map V.str).all flatV = true := by
  rw [List.all_eq_true]
  intro v hv
  obtain ⟨z, _, rfl⟩ := List.mem_map.mp hv
  rfl
/-! ### a for over a list or a tuple -/
def iSeqA (K : PySem.W.Frag) (tl : TE) : TI := fun σ H R => tl σ H fun x H1 => ∃ a xs, x = .ref a ∧ ((SqL K H1 a xs ∧ R (Itl K a) H1) ∨ (SqT K H1 a xs ∧ R (Itt K a) H1))
theorem pi_seqA {X : Cx} {tg l : Expr} {tl : TE} (hl : PE X l tl) : PI X tg l (iSeqA X.K tl) := by
  refine ⟨fun pins z σ H R I h => thn (hl.run pins z σ H _ I h) fun v z1 ⟨x, H1, I1, r1, q1⟩ => ?_⟩
  obtain ⟨a, xs, ex, hq⟩ := q1
  subst ex
  cases r1
  have fp : ∀ b ∈ [z1.heap.objs.size], FpOk X pins H1 b := fun b hb => by
    rw [List.mem_singleton.mp hb]
    exact I1.fpOk (Nat.le_refl _) (I1.hok.fresh (Nat.le_refl _))
  rcases hq with ⟨hq, q⟩ | ⟨hq, q⟩
  · obtain ⟨its, rv, tp, _⟩ := I1.list hq
    exact wpAny_pyIter_list tp.isList ⟨z1.heap.objs.size, [z1.heap.objs.size], _, _, H1, rfl, I1.kept (t' := z1.toks) fun b o e => Heap.get?_push_of_some _ e, turn_list a _, ⟨_, Heap.get?_push_size _ rfl, rfl, rfl⟩, fp, q⟩
  · obtain ⟨its, rv, tp, _⟩ := I1.tuple hq
    exact wpAny_pyIter_tuple (show z1.heap.IsTuple a its.toArray from tp) ⟨z1.heap.objs.size, [z1.heap.objs.size], _, _, H1, rfl, I1.kept (t' := z1.toks) fun b o e => Heap.get?_push_of_some _ e, turn_tuple a _, ⟨_, Heap.get?_push_size _ rfl, rfl, rfl⟩, fp, q⟩
/-! ### rows: tuples in a list or tuple -/
def Rows (K : PySem.W.Frag) (H : Hp) : List V → List (List V) → Prop
  | [], [] => True
  | v :: xs, r :: rs => (∃ t, v = .ref t ∧ SqT K H t r) ∧ Rows K H xs rs
  | _, _ => False
section
variable {K : PySem.W.Frag} {H H' : Hp}
theorem Rows.mono (s : Same H H') : ∀ {xs : List V} {rs : List (List V)}, Rows K H xs rs → Rows K H' xs rs
  | [], [], _ => True.intro
  | _ :: _, _ :: _, ⟨⟨t, e, h⟩, r⟩ => ⟨⟨t, e, Same.sqt s h⟩, r.mono s⟩
theorem Rows.len : ∀ {xs : List V} {rs : List (List V)}, Rows K H xs rs → xs.length = rs.length
  | [], [], _ => rfl
  | _ :: _, _ :: _, ⟨_, r⟩ => congrArg (· + 1) r.len
theorem Rows.snoc {t : Addr} {w : List V} (h : SqT K H t w) : ∀ {xs : List V} {rs : List (List V)}, Rows K H xs rs → Rows K H (xs ++ [.ref t]) (rs ++ [w])
  | [], [], _ => ⟨⟨t, rfl, h⟩, True.intro⟩
  | _ :: _, _ :: _, ⟨e, r⟩ => ⟨e, r.snoc h⟩
theorem Rows.app : ∀ {xs ys : List V} {rs ss : List (List V)}, Rows K H xs rs → Rows K H ys ss → Rows K H (xs ++ ys) (rs ++ ss)
  | [], _, [], _, _, h => h
  | _ :: _, _, _ :: _, _, ⟨e, r⟩, h => ⟨e, r.app h⟩
theorem Rows.at : ∀ {xs : List V} {rs : List (List V)} {i : Nat} {v : V}, Rows K H xs rs → xs[i]? = some v → ∃ t r, v = .ref t ∧ SqT K H t r ∧ rs[i]? = some r
  | [], [], _, _, _, h => by simp at h
  | _ :: _, r :: _, 0, _, ⟨⟨t, e, h⟩, _⟩, hi => ⟨t, r, by rw [← Option.some.inj hi]; exact e, h, rfl⟩
  | _ :: _, _ :: _, i + 1, _, ⟨_, r⟩, hi => Rows.at (i := i) r hi
theorem Rows.take : ∀ {xs : List V} {rs : List (List V)} (i : Nat), Rows K H xs rs → Rows K H (xs.take i) (rs.take i)
  | [], [], i, _ => by simp [Rows]
  | _ :: _, _ :: _, 0, _ => True.intro
  | _ :: _, _ :: _, i + 1, ⟨e, r⟩ => ⟨e, r.take i⟩
theorem Rows.drop : ∀ {xs : List V} {rs : List (List V)} (i : Nat), Rows K H xs rs → Rows K H (xs.drop i) (rs.drop i)
  | [], [], i, _ => by simp [Rows]
  | _ :: _, _ :: _, 0, h => h
  | _ :: _, _ :: _, i + 1, ⟨_, r⟩ => r.drop i
end
/-! ### boards: the data -/
structure Sp3 where (nm one oth : Str)
def Sp3.row (r : Sp3) : List V := [.str r.nm, .str r.one, .str r.oth]
structure Ct where (one oth : Str) (mv : Option Str) (whn way : Str)
def mvV : Option Str → V
  | none => .non
  | some m => .str m
def Ct.row (c : Ct) : List V := [.str c.one, .str c.oth, mvV c.mv, .str c.whn, .str c.way]
structure Bd where (nodes switches : List Str) (relays lamps : List Sp3) (contacts : List Ct)
def Bd.movers (b : Bd) : List Str := b.switches ++ b.relays.map (·.nm)
def isNm (z : Str) : Bool := decide (1 ≤ z.length) && (decide (z.length ≤ 12) && z.cps.toList.all fun c => decide (c ∈ alph))
theorem isNm_iff {z : Str} : isNm z = true ↔ Nm z := by
  unfold isNm Nm Al
  simp only [Bool.and_eq_true, decide_eq_true_eq, List.all_eq_true]
def areNm (zs : List Str) (lo hi : Nat) : Bool := zs.all isNm && (decide zs.Nodup && (decide (lo ≤ zs.length) && decide (zs.length ≤ hi)))
def spanB (nodes : List Str) (r : Sp3) : Bool := isNm r.nm && (decide (r.one ∈ nodes) && (decide (r.oth ∈ nodes) && !decide (r.one = r.oth)))
def makeS : Str := "make"
def breakS : Str := "break"
def bothS : Str := "both"
def forwardS : Str := "forward"
def ctB (nodes movers : List Str) (c : Ct) : Bool := decide (c.one ∈ nodes) && (decide (c.oth ∈ nodes) && (!decide (c.one = c.oth) && ((match c.mv with
  | none => decide (c.whn = makeS)
  | some m => decide (m ∈ movers) && decide (c.whn ∈ [makeS, breakS])) && decide (c.way ∈ [bothS, forwardS]))))
/-- a board that may be -/
structure Bd.Ok (b : Bd) : Prop where
  nodes : areNm b.nodes 2 16 = true
  sw : b.switches.length ≤ 6
  rl : b.relays.length ≤ 8
  mv : areNm b.movers 0 b.movers.length = true
  lp : areNm (b.lamps.map (·.nm)) 1 8 = true
  spR : ∀ r ∈ b.relays, spanB b.nodes r = true
  spL : ∀ r ∈ b.lamps, spanB b.nodes r = true
  ct : b.contacts.length ≤ 40
  cts : ∀ c ∈ b.contacts, ctB b.nodes b.movers c = true
theorem areNm_names {zs : List Str} {lo hi : Nat} (h : areNm zs lo hi = true) : (∀ z ∈ zs, Nm z) ∧ zs.Nodup ∧ lo ≤ zs.length ∧ zs.length ≤ hi := by
  unfold areNm at h
  simp only [Bool.and_eq_true, decide_eq_true_eq, List.all_eq_true] at h
  exact ⟨fun z hz => isNm_iff.mp (h.1 z hz), h.2.1, h.2.2.1, h.2.2.2⟩
/-- what the top holds of the class and of the constants about it -/
structure BTxt (K : PySem.W.Frag) (mg : Str → Option Value) (C : Addr) (mc : Value) (sp : Addr) (sg : Addr) : Prop where
  cl : Cls K C
  nN : NoAttr K C "nodes"
  nS : NoAttr K C "switches"
  nR : NoAttr K C "relays"
  nL : NoAttr K C "lamps"
  nC : NoAttr K C "contacts"
  nM : NoAttr K C "_movers"
  mgB : mg "Board" = some (.ref C)
  gI : mg "is_good_name" = some (.ref sg)
  cr : ClX.CRead K C mc
  c1 : ∃ t, PySem.W.findCls K (.ref C) mc "MOST_NODES" = some (.val (.int 16 t))
  c2 : ∃ t, PySem.W.findCls K (.ref C) mc "MOST_SWITCHES" = some (.val (.int 6 t))
  c3 : ∃ t, PySem.W.findCls K (.ref C) mc "MOST_RELAYS" = some (.val (.int 8 t))
  c4 : ∃ t, PySem.W.findCls K (.ref C) mc "MOST_LAMPS" = some (.val (.int 8 t))
  c5 : ∃ t, PySem.W.findCls K (.ref C) mc "MOST_CONTACTS" = some (.val (.int 40 t))
  g1 : ∃ t, mg "LONGEST_NAME" = some (.int 12 t)
  g2 : ∃ t, mg "LEAST_NODES" = some (.int 2 t)
  g3 : ∃ t, mg "LEAST_LAMPS" = some (.int 1 t)
  g4 : ∃ t, mg "CHARACTERS" = some (.str "abcdefghijklmnopqrstuvwxyz0123456789" t)
  g5 : ∃ a, mg "WHENS" = some (.ref a) ∧ ∀ H, SqT K H a ([makeS, breakS].map V.str)
  g6 : ∃ a, mg "WAYS" = some (.ref a) ∧ ∀ H, SqT K H a ([bothS, forwardS].map V.str)
  len : mg "len" = none
  all : mg "all" = none
  tup : mg "tuple" = none
  enu : mg "enumerate" = none
section
variable {P : Program} {w : World} {K : PySem.W.Frag} {mg : Str → Option Value} {base : Heap}
/-! ### is_good_name -/
def spIsName : Sp := fun vs H Q _ => ∃ z : Str, vs = [.str z] ∧ z.length ≤ 1000000 ∧ ∀ H', Same H H' → Q (.bl (isNm z)) H'
theorem scIsName : FnScope ["text", "letter"] ["text"] (defScope sIsGoodName) := ⟨rfl, rfl, rfl, by decide +kernel, rfl, by decide +kernel, by decide +kernel⟩
theorem ok_isName {f C sp sg : Addr} {mc : Value} {fd : FuncData} {k : Nat} (F : Fun K "is_good_name" "is_good_name" sIsGoodName f fd) (T : BTxt K mg C mc sp sg) : FnOk P w K mg base CX0 (k + 1) f fd ["text"] spIsName := by
  obtain ⟨t1, g1⟩ := T.g1
  obtain ⟨t4, g4⟩ := T.g4
  refine F.ok scIsName (fun vs H Q E h => ?_) (fun cdv A outer s H vs Q E hr h => ?_)
  · obtain ⟨z, rfl, _⟩ := h
    rfl
  · obtain ⟨z, rfl, hz, q⟩ := h
    refine ⟨_, pss_one (ps_ret (pe_and (pe_chain op_le op_le pe_int (pe_callB call_len_str (by rfl) T.len PySem.boot_len (pa_cons (pv 0) pa_nil)) (pe_glob (v := .int 12) rfl g1 ⟨_, rfl⟩))
      (pe_one (pe_callB (cr_all rfl) (by rfl) T.all (by decide +kernel) (pa_cons (pe_lc (own := [("letter", 1)]) (g := gName 1) (tt := tYes) rfl scIsName.nd (pi_str (pv 0)) (blkOk_by (N := ["text", "letter"]) (sc := defScope sIsGoodName) (by decide +kernel)) (fun _ _ _ _ _ => pg_name (i := 1) scIsName.nd rfl (Or.inl rfl)) (fun _ _ _ _ _ => pts_nil)
        (fun _ _ _ _ _ => pe_cmpR op_in_sign (pv 1) (pe_glob (v := .str "abcdefghijklmnopqrstuvwxyz0123456789") rfl g4 ⟨_, rfl⟩) (by rfl))) pa_nil))))), ?_⟩
    refine ⟨_, rfl, z, rfl, szl hz, _, _, rfl, rfl, _, rfl, ?_⟩
    refine ite2 (fun h1 => ?_) (fun h1 => ?_)
    · have h1' : 1 ≤ z.length := by
        have := of_decide_eq_true h1
        omega
      refine ⟨_, _, rfl, rfl, _, rfl, ?_⟩
      refine ite2 (fun h2 => ?_) (fun h2 => ?_)
      · have h2' : z.length ≤ 12 := by
          have := of_decide_eq_true h2
          omega
        refine ⟨_, rfl, _, rfl, fun D hD => ?_⟩
        refine lc_it walk_str (fun i H2 => Same H H2 ∧ H2 D = some (.lst (((z.cps.toList.take i).map fun c => decide (c ∈ alph)).map V.bl)))
          ⟨same_upd hD, upd_same⟩ (fun _ _ _ _ => True.intro) ?_ ?_
        · rintro i x H2 H3 hi ⟨sm, hd⟩ ⟨rfl, c, hc, rfl⟩
          have hc' : z.cps.toList[i]? = some c := by
            rw [Array.getElem?_toList]
            exact hc
          refine ⟨rfl, ?_⟩
          refine yesT ?_
          refine ⟨_, rfl, c, _, rfl, rfl, _, hd, ?_, same_mut sm hD, ?_⟩
          · rw [List.length_map, List.length_map, List.length_take]
            exact szlt (by have := len_tl z; omega)
          · rw [upd_same, List.take_add_one, hc', Option.toList_some, map_snoc, map_snoc]
            rfl
        · rintro H2 ⟨sm, hd⟩
          refine ⟨D, _, rfl, sq hd, ?_⟩
          have e : (((z.cps.toList.take z.cps.size).map fun c => decide (c ∈ alph)).all id) = isNm z := by
            unfold isNm
            rw [show z.cps.size = z.cps.toList.length by simp, List.take_length, decide_eq_true h1', decide_eq_true h2', Bool.true_and, Bool.true_and, List.all_map]
            rfl
          rw [e]
          exact q H2 sm
      · have h2' : ¬ z.length ≤ 12 := by
          have := of_decide_eq_false (Bool.eq_false_iff.mpr h2)
          omega
        have e : isNm z = false := by
          unfold isNm
          rw [decide_eq_false h2', Bool.false_and, Bool.and_false]
        rw [← e]
        exact q H (Same.refl H)
    · have h1' : ¬ 1 ≤ z.length := by
        have := of_decide_eq_false (Bool.eq_false_iff.mpr h1)
        omega
      have e : isNm z = false := by
        unfold isNm
        rw [decide_eq_false h1', Bool.false_and]
      refine ⟨_, rfl, ?_⟩
      refine iteF ?_
      rw [← e]
      exact q H (Same.refl H)
/-! ### are_names -/
def spAreNames (K : PySem.W.Frag) : Sp := fun vs H Q _ => ∃ (a : Addr) (zs : List Str) (lo hi : Nat), vs = [.ref a, .int lo, .int hi] ∧ Sq K H a (zs.map V.str) ∧ (∀ z ∈ zs, z.length ≤ 1000000) ∧ zs.length ≤ 1000 ∧ ∀ H', Same H H' → Q (.bl (areNm zs lo hi)) H'
theorem scAreNames : FnScope ["names", "least", "most", "number", "name"] ["names", "least", "most"] (defScope sAreNames) := ⟨rfl, rfl, rfl, by decide +kernel, rfl, by decide +kernel, by decide +kernel⟩
theorem areNm_bad {zs : List Str} {lo hi i : Nat} {z : Str} (hz : zs[i]? = some z) (h : isNm z = false ∨ z ∈ zs.take i) : areNm zs lo hi = false := by
  rw [← Bool.not_eq_true]
  intro e
  unfold areNm at e
  simp only [Bool.and_eq_true, decide_eq_true_eq, List.all_eq_true] at e
  have hm : z ∈ zs := List.mem_of_getElem? hz
  rcases h with h | h
  · rw [e.1 z hm] at h
    cases h
  · obtain ⟨j, hj⟩ := List.mem_iff_getElem?.mp h
    have hjl : j < (zs.take i).length := (List.getElem?_eq_some_iff.mp hj).1
    rw [List.length_take] at hjl
    rw [List.getElem?_take_of_lt (by omega)] at hj
    have := nd_ix e.2.1 hz hj
    omega
theorem areNm_good {zs : List Str} {lo hi : Nat} (h : ∀ i z, zs[i]? = some z → isNm z = true ∧ z ∉ zs.take i) : areNm zs lo hi = (decide (lo ≤ zs.length) && decide (zs.length ≤ hi)) := by
  have e1 : zs.all isNm = true := by
    rw [List.all_eq_true]
    intro z hz
    obtain ⟨i, hi⟩ := List.mem_iff_getElem?.mp hz
    exact (h i z hi).1
  have e2 : zs.Nodup := by
    refine List.pairwise_iff_getElem.mpr fun i j hi hj hij e => ?_
    refine (h j _ (List.getElem?_eq_getElem hj)).2 (List.mem_iff_getElem?.mpr ⟨i, ?_⟩)
    rw [List.getElem?_take_of_lt hij, List.getElem?_eq_getElem hi, e]
  unfold areNm
  rw [e1, decide_eq_true e2, Bool.true_and, Bool.true_and]
theorem ok_areNames {f fI C sp sg : Addr} {mc : Value} {fd fdI : FuncData} {k : Nat} (F : Fun K "are_names" "are_names" sAreNames f fd) (T : BTxt K mg C mc sp sg) (FI : Fun K "is_good_name" "is_good_name" sIsGoodName sg fdI) (bI : Binds K fdI ["text"] []) :
    FnOk P w K mg base CX0 (k + 2) f fd ["names", "least", "most"] (spAreNames K) := by
  have GI : FnOk P w K mg base CX0 (k + 1) sg fdI ["text"] spIsName := ok_isName FI T
  refine F.ok scAreNames (fun vs H Q E h => ?_) (fun cdv A outer s H vs Q E hr h => ?_)
  · obtain ⟨a, zs, lo, hi, rfl, _⟩ := h
    rfl
  · obtain ⟨a, zs, lo, hi, rfl, hq, hz, hl, q⟩ := h
    refine ⟨_, pss_cons (ps_for PassesOwn.never rfl (pi_enumA rfl T.enu (pa_cons (pv 0) pa_nil)) (pg_tup rfl (pgs_cons (pg_name (i := 3) scAreNames.nd rfl (.inl rfl)) (pgs_cons (pg_name (i := 4) scAreNames.nd rfl (.inl rfl)) pgs_nil)))
        (pss_one (ps_if (PW.pt (pw_or (pt_not (pt_val (pe_call GI hr (by rfl) T.gI FI.kp bI .nil pass0 (pa_cons (pv 4) pa_nil)))) (pw_or1 (pt_cmpR op_in_seq (pv 4) (pe_slice sl_any (pv 0) po_none (po_some (pv 3))) (by rfl)))))
          (pss_one (ps_ret pe_bl)) pss_nil)))
      (pss_one (ps_ret (pe_chain op_le op_le (pv 1) (pe_callB call_len_seq (by rfl) T.len PySem.boot_len (pa_cons (pv 0) pa_nil)) (pv 2)))), ?_⟩
    rcases hq with hq | hq
    all_goals
      first
      | refine ⟨_, rfl, a, zs.map V.str, rfl, .inl ⟨hq, for_it walk_enum (fun i σ H2 => ∃ z3 z4 : Option V, σ = [some (.ref a), some (.int lo), some (.int hi), z3, z4] ∧ Same H H2 ∧ ∀ j z, j < i → zs[j]? = some z → isNm z = true ∧ z ∉ zs.take j)
          ⟨none, none, rfl, Same.refl H, fun j z hj => absurd hj (Nat.not_lt_zero _)⟩ (fun _ _ _ _ ⟨_, _, _, sm, _⟩ => sm.seq hq) ?_ ?_⟩⟩
      | refine ⟨_, rfl, a, zs.map V.str, rfl, .inr ⟨hq, for_it walk_enumT (fun i σ H2 => ∃ z3 z4 : Option V, σ = [some (.ref a), some (.int lo), some (.int hi), z3, z4] ∧ Same H H2 ∧ ∀ j z, j < i → zs[j]? = some z → isNm z = true ∧ z ∉ zs.take j)
          ⟨none, none, rfl, Same.refl H, fun j z hj => absurd hj (Nat.not_lt_zero _)⟩ (fun _ _ _ _ ⟨_, _, _, sm, _⟩ => Same.sqt sm hq) ?_ ?_⟩⟩
      · rintro i v σ H2 H3 hi' ⟨z3, z4, rfl, sm, good⟩ ⟨t, x, y, rfl, nt, rfl, hx, hy⟩
        cases hx
        rw [List.length_map] at hi'
        have hzi : zs[i]? = some zs[i] := List.getElem?_eq_getElem hi'
        have ey : y = .str zs[i] := by
          have hy : (zs.map V.str)[i]? = some y := hy
          rw [List.getElem?_map, hzi] at hy
          exact (Option.some.inj hy).symm
        subst ey
        have s2 : Same H (upd H2 t (.tup [.int (i : Nat), .str zs[i]])) := sm.trans (same_upd nt)
        refine ⟨t, _, rfl, st upd_same, rfl, _, _, rfl, _, _, rfl, rfl, ?_⟩
        refine ⟨_, rfl, zs[i], rfl, hz _ (List.getElem_mem hi'), fun H4 s4 => ⟨_, rfl, ?_⟩⟩
        have s24 := s2.trans s4
        cases en : isNm zs[i] with
        | false =>
          refine iteT ?_
          refine iteT ?_
          have e := areNm_bad (lo := lo) (hi := hi) hzi (.inl en)
          rw [← e]
          exact q _ s24
        | true =>
          refine iteF ?_
          refine ⟨_, rfl, _, rfl, _, rfl, (i : Int), rfl, ?_⟩
          refine cut_any (by first | exact .inl (s24.seq hq) | exact .inr (Same.sqt s24 hq)) fun p H5 s5 hp _ => ?_
          have s25 := s24.trans s5
          rw [cut_list, ← List.map_take] at hp
          refine ⟨p, _, rfl, hp, rfl, flat_strs _, _, rfl, ?_⟩
          rw [if_neg Bool.false_ne_true, inV_str]
          refine ite2 (fun e => ?_) (fun e => ?_)
          · have e2 := areNm_bad (lo := lo) (hi := hi) hzi (.inr (of_decide_eq_true e))
            rw [← e2]
            exact q _ s25
          · refine ⟨_, _, rfl, s25, fun j z hj hzj => ?_⟩
            by_cases ej : j = i
            · subst ej
              rw [hzi] at hzj
              cases hzj
              exact ⟨en, of_decide_eq_false (Bool.eq_false_iff.mpr e)⟩
            · exact good j z (by omega) hzj
      · rintro σ H2 ⟨z3, z4, rfl, sm, good⟩
        rw [List.length_map] at good
        have e := areNm_good (lo := lo) (hi := hi) fun i z hi => good i z (List.getElem?_eq_some_iff.mp hi).1 hi
        refine ⟨_, rfl, _, rfl, a, _, rfl, (by first | exact .inl (sm.seq hq) | exact .inr (Same.sqt sm hq)), _, _, rfl, rfl, _, rfl, ?_⟩
        rw [List.length_map]
        refine ite2 (fun h1 => ?_) (fun h1 => ?_)
        · have h1' : lo ≤ zs.length := by
            have := of_decide_eq_true h1
            omega
          refine ⟨_, rfl, _, _, rfl, rfl, ?_⟩
          have e3 : areNm zs lo hi = decide ((zs.length : Int) ≤ (hi : Int)) := by
            rw [e, decide_eq_true h1', Bool.true_and]
            exact decide_eq_decide.mpr (by omega)
          show Q (V.bl (decide ((zs.length : Int) ≤ (hi : Int)))) _
          rw [← e3]
          exact q _ sm
        · have h1' : ¬ lo ≤ zs.length := by
            have := of_decide_eq_false (Bool.eq_false_iff.mpr h1)
            omega
          have e3 : areNm zs lo hi = false := by
            rw [e, decide_eq_false h1', Bool.false_and]
          rw [← e3]
          exact q _ sm
/-! ### is_span, is_contact -/
theorem dec_f {b : Bool} {A : Prop} [Decidable A] (h : ¬ A) : (decide A && b) = false := by rw [decide_eq_false h, Bool.false_and]
theorem ndt {c : Prop} [Decidable c] (h : (decide c) = true) : c := of_decide_eq_true h
theorem ndf {c : Prop} [Decidable c] (h : ¬ (decide c) = true) : ¬ c := of_decide_eq_false (Bool.eq_false_iff.mpr h)
def spIsSpan (K : PySem.W.Frag) : Sp := fun vs H Q _ => ∃ (t b : Addr) (r : Sp3) (ns : List Str), vs = [.ref t, .ref b] ∧ SqT K H t r.row ∧ Sq K H b (ns.map V.str) ∧ r.nm.length ≤ 1000000 ∧ ∀ H', Same H H' → Q (.bl (spanB ns r)) H'
theorem scIsSpan : FnScope ["part", "nodes", "name", "one", "other"] ["part", "nodes"] (defScope sIsSpan) := ⟨rfl, rfl, rfl, by decide +kernel, rfl, by decide +kernel, by decide +kernel⟩
theorem ok_isSpan {f C sp sg : Addr} {mc : Value} {fd fdI : FuncData} {k : Nat} (F : Fun K "is_span" "is_span" sIsSpan f fd) (T : BTxt K mg C mc sp sg) (FI : Fun K "is_good_name" "is_good_name" sIsGoodName sg fdI) (bI : Binds K fdI ["text"] []) :
    FnOk P w K mg base CX0 (k + 2) f fd ["part", "nodes"] (spIsSpan K) := by
  have GI : FnOk P w K mg base CX0 (k + 1) sg fdI ["text"] spIsName := ok_isName FI T
  refine F.ok scIsSpan (fun vs H Q E h => ?_) (fun cdv A outer s H vs Q E hr h => ?_)
  · obtain ⟨t, b, r, ns, rfl, _⟩ := h
    rfl
  · obtain ⟨t, b, r, ns, rfl, ht, hb, hl, q⟩ := h
    refine ⟨_, pss_cons (ps_if (pt_cmpR op_ne (pe_callB call_len_seq (by rfl) T.len PySem.boot_len (pa_cons (pv 0) pa_nil)) pe_int (nomark _)) (pss_one (ps_ret pe_bl)) pss_nil)
      (pss_cons (ps_asg (pv 0) (pg_tup rfl (pgs_cons (pg_name (i := 2) scIsSpan.nd rfl (.inl rfl)) (pgs_cons (pg_name (i := 3) scIsSpan.nd rfl (.inl rfl)) (pgs_cons (pg_name (i := 4) scIsSpan.nd rfl (.inl rfl)) pgs_nil)))))
      (pss_one (ps_ret (pe_and (pe_call GI hr (by rfl) T.gI FI.kp bI .nil pass0 (pa_cons (pv 2) pa_nil))
        (pe_and (pe_cmpR op_in_seq (pv 3) (pv 1) (by rfl)) (pe_and (pe_cmpR op_in_seq (pv 4) (pv 1) (by rfl)) (pe_one (pe_cmpR op_ne (pv 3) (pv 4) (nomark _))))))))), ?_⟩
    refine ⟨_, rfl, t, _, rfl, .inr ht, rfl, _, rfl, ?_⟩
    refine iteF ?_
    refine ⟨_, rfl, t, _, rfl, ht, rfl, _, _, rfl, _, _, rfl, _, _, rfl, rfl, ?_⟩
    refine ⟨_, rfl, r.nm, rfl, hl, fun H1 s1 => ⟨_, rfl, ?_⟩⟩
    have e0 : spanB ns r = (isNm r.nm && (decide (r.one ∈ ns) && (decide (r.oth ∈ ns) && !decide (r.one = r.oth)))) := rfl
    refine ite2 (fun h1 => ?_) (fun h1 => ?_)
    · rw [h1, Bool.true_and] at e0
      refine ⟨_, rfl, _, rfl, b, _, rfl, Same.sq s1 hb, rfl, flat_strs _, _, rfl, ?_⟩
      rw [if_neg Bool.false_ne_true, inV_str]
      refine ite2 (fun h2 => ?_) (fun h2 => ?_)
      · rw [h2, Bool.true_and] at e0
        refine ⟨_, rfl, _, rfl, b, _, rfl, Same.sq s1 hb, rfl, flat_strs _, _, rfl, ?_⟩
        rw [if_neg Bool.false_ne_true, inV_str]
        refine ite2 (fun h3 => ?_) (fun h3 => ?_)
        · rw [h3, Bool.true_and] at e0
          refine ⟨_, rfl, _, rfl, rfl, ?_⟩
          have e1 : (!decide (V.str r.one = V.str r.oth)) = spanB ns r := by
            rw [e0]
            congr 1
            exact decide_eq_decide.mpr ⟨V.str.inj, congrArg V.str⟩
          show Q (V.bl (!decide (V.str r.one = V.str r.oth))) _
          rw [e1]
          exact q _ s1
        · rw [Bool.eq_false_iff.mpr h3, Bool.false_and] at e0
          show Q (V.bl false) _
          rw [← e0]
          exact q _ s1
      · rw [Bool.eq_false_iff.mpr h2, Bool.false_and] at e0
        show Q (V.bl false) _
        rw [← e0]
        exact q _ s1
    · rw [Bool.eq_false_iff.mpr h1, Bool.false_and] at e0
      show Q (V.bl false) _
      rw [← e0]
      exact q _ s1
def spIsContact (K : PySem.W.Frag) : Sp := fun vs H Q _ => ∃ (t b m : Addr) (c : Ct) (ns ms : List Str), vs = [.ref t, .ref b, .ref m] ∧ SqT K H t c.row ∧ Sq K H b (ns.map V.str) ∧ Sq K H m (ms.map V.str) ∧ ∀ H', Same H H' → Q (.bl (ctB ns ms c)) H'
theorem scIsContact : FnScope ["part", "nodes", "movers", "one", "other", "mover", "when", "way"] ["part", "nodes", "movers"] (defScope sIsContact) := ⟨rfl, rfl, rfl, by decide +kernel, rfl, by decide +kernel, by decide +kernel⟩
theorem ok_isContact {f C sp sg : Addr} {mc : Value} {fd : FuncData} {k : Nat} (F : Fun K "is_contact" "is_contact" sIsContact f fd) (T : BTxt K mg C mc sp sg) : FnOk P w K mg base CX0 (k + 1) f fd ["part", "nodes", "movers"] (spIsContact K) := by
  obtain ⟨aW, g5, hW⟩ := T.g5
  obtain ⟨aY, g6, hY⟩ := T.g6
  refine F.ok scIsContact (fun vs H Q E h => ?_) (fun cdv A outer s H vs Q E hr h => ?_)
  · obtain ⟨t, b, m, c, ns, ms, rfl, _⟩ := h
    rfl
  · obtain ⟨t, b, m, c, ns, ms, rfl, ht, hb, hm, q⟩ := h
    refine ⟨_, pss_cons (ps_if (pt_cmpR op_ne (pe_callB call_len_seq (by rfl) T.len PySem.boot_len (pa_cons (pv 0) pa_nil)) pe_int (nomark _)) (pss_one (ps_ret pe_bl)) pss_nil)
      (pss_cons (ps_asg (pv 0) (pg_tup rfl (pgs_cons (pg_name (i := 3) scIsContact.nd rfl (.inl rfl)) (pgs_cons (pg_name (i := 4) scIsContact.nd rfl (.inl rfl)) (pgs_cons (pg_name (i := 5) scIsContact.nd rfl (.inl rfl)) (pgs_cons (pg_name (i := 6) scIsContact.nd rfl (.inl rfl)) (pgs_cons (pg_name (i := 7) scIsContact.nd rfl (.inl rfl)) pgs_nil)))))))
      (pss_cons (ps_if (PW.pt (pw_or (pt_cmpR op_notIn_seq (pv 3) (pv 1) (by rfl)) (pw_or (pt_cmpR op_notIn_seq (pv 4) (pv 1) (by rfl)) (pw_or1 (pt_cmpR op_eq (pv 3) (pv 4) (nomark _)))))) (pss_one (ps_ret pe_bl)) pss_nil)
      (pss_cons (ps_if (pt_cmpR op_isN (pv 5) pe_non (nomark _)) (pss_one (ps_ret (pe_and (pe_cmpR op_eq (pv 6) pe_str (nomark _)) (pe_one (pe_cmpR op_in_seq (pv 7) (pe_glob (v := .ref aY) rfl g6 rfl) (by rfl)))))) pss_nil)
      (pss_one (ps_ret (pe_and (pe_cmpR op_in_seq (pv 5) (pv 2) (by rfl)) (pe_and (pe_cmpR op_in_seq (pv 6) (pe_glob (v := .ref aW) rfl g5 rfl) (by rfl)) (pe_one (pe_cmpR op_in_seq (pv 7) (pe_glob (v := .ref aY) rfl g6 rfl) (by rfl)))))))))), ?_⟩
    refine ⟨_, rfl, t, _, rfl, .inr ht, rfl, _, rfl, ?_⟩
    refine iteF ?_
    refine ⟨_, rfl, t, _, rfl, ht, rfl, _, _, rfl, _, _, rfl, _, _, rfl, _, _, rfl, _, _, rfl, rfl, ?_⟩
    have q' := q H (Same.refl H)
    unfold ctB at q'
    refine ⟨_, rfl, _, rfl, b, _, rfl, hb, rfl, flat_strs _, _, rfl, ?_⟩
    rw [if_pos rfl, inV_str]
    by_cases h1 : c.one ∈ ns
    · rw [decide_eq_true h1] at q' ⊢
      refine iteF ?_
      refine ⟨_, rfl, _, rfl, b, _, rfl, hb, rfl, flat_strs _, _, rfl, ?_⟩
      rw [if_pos rfl, inV_str]
      by_cases h2 : c.oth ∈ ns
      · rw [decide_eq_true h2] at q' ⊢
        refine iteF ?_
        refine ⟨_, rfl, _, rfl, rfl, _, rfl, ?_⟩
        by_cases h3 : c.one = c.oth
        · rw [decide_eq_true (congrArg V.str h3)]
          rw [decide_eq_true h3] at q'
          refine iteT ?_
          exact q'
        · rw [decide_eq_false (fun z => h3 (V.str.inj z))]
          rw [decide_eq_false h3] at q'
          refine iteF ?_
          refine ⟨_, rfl, rfl, _, rfl, ?_⟩
          cases em : c.mv with
          | none =>
            rw [em] at q'
            have e1 : decide (mvV none = V.non) = true := rfl
            rw [e1]
            refine iteT ?_
            refine ⟨_, rfl, rfl, _, rfl, ?_⟩
            by_cases h4 : c.whn = makeS
            · rw [decide_eq_true h4] at q'
              rw [show decide (V.str c.whn = V.str "make") = true from decide_eq_true (congrArg V.str h4)]
              refine iteT ?_
              refine ⟨_, rfl, aY, _, rfl, .inr (hY _), rfl, flat_strs _, ?_⟩
              rw [if_neg Bool.false_ne_true, inV_str]
              exact q'
            · rw [decide_eq_false h4] at q'
              rw [show decide (V.str c.whn = V.str "make") = false from decide_eq_false fun z => h4 (V.str.inj z)]
              refine iteF ?_
              exact q'
          | some mo =>
            rw [em] at q'
            dsimp only at q'
            have e1 : decide (mvV (some mo) = V.non) = false := decide_eq_false fun z => by cases z
            rw [e1]
            refine iteF ?_
            refine ⟨_, rfl, _, rfl, m, _, rfl, hm, rfl, flat_strs _, _, rfl, ?_⟩
            rw [if_neg Bool.false_ne_true]
            show if inV (V.str mo) (ms.map V.str) = true then _ else _
            rw [inV_str]
            by_cases h4 : mo ∈ ms
            · rw [decide_eq_true h4] at q' ⊢
              refine iteT ?_
              refine ⟨_, rfl, aW, _, rfl, .inr (hW _), rfl, flat_strs _, _, rfl, ?_⟩
              rw [if_neg Bool.false_ne_true, inV_str]
              by_cases h5 : c.whn ∈ [makeS, breakS]
              · rw [decide_eq_true h5] at q' ⊢
                refine iteT ?_
                refine ⟨_, rfl, aY, _, rfl, .inr (hY _), rfl, flat_strs _, ?_⟩
                rw [if_neg Bool.false_ne_true, inV_str]
                exact q'
              · rw [decide_eq_false h5] at q' ⊢
                refine iteF ?_
                exact q'
            · rw [decide_eq_false h4] at q' ⊢
              refine iteF ?_
              exact q'
      · rw [decide_eq_false h2] at q' ⊢
        refine iteT ?_
        refine iteT ?_
        exact q'
    · rw [decide_eq_false h1] at q' ⊢
      refine iteT ?_
      refine iteT ?_
      exact q'
/-! ### the fields of a board -/
theorem putF_len (f : Str) (v : V) : ∀ fs : List (Str × V), (putF f v fs).length ≤ fs.length + 1
  | [] => Nat.le_refl _
  | (g, x) :: r => by
    show (if g = f then (g, v) :: r else (g, x) :: putF f v r).length ≤ r.length + 1 + 1
    split
    · exact Nat.le_succ _
    · exact Nat.succ_le_succ (putF_len f v r)
theorem cat_any {K : PySem.W.Frag} {a b : Addr} {xs ys : List V} {H : Hp} {Q : VK} (h1 : SqT K H a xs) (h2 : SqT K H b ys) (hl : xs.length + ys.length ≤ 1000000) (q : ∀ p H', Same H H' → SqT K H' p (xs ++ ys) → Q (.ref p) H') : rCatA K (.ref a) (.ref b) H Q := by
  refine ⟨a, b, xs, ys, rfl, rfl, h1, h2, szl hl, fun e => q b H (Same.refl H) (by rw [e]; exact h2), fun _ e => q a H (Same.refl H) (by rw [e, List.append_nil]; exact h1), fun _ _ p np => q p _ (same_upd np) (st upd_same)⟩
structure Fl (K : PySem.W.Frag) (H : Hp) (fs : List (Str × V)) (b : Bd) (tn ts tr tl tc : Addr) (xr xl xc : List V) : Prop where
  ln : fs.lookup ("nodes" : Str) = some (.ref tn)
  ls : fs.lookup ("switches" : Str) = some (.ref ts)
  lr : fs.lookup ("relays" : Str) = some (.ref tr)
  ll : fs.lookup ("lamps" : Str) = some (.ref tl)
  lc : fs.lookup ("contacts" : Str) = some (.ref tc)
  hn : SqT K H tn (b.nodes.map V.str)
  hs : SqT K H ts (b.switches.map V.str)
  hr : SqT K H tr xr
  hl : SqT K H tl xl
  hc : SqT K H tc xc
  rr : Rows K H xr (b.relays.map Sp3.row)
  rl : Rows K H xl (b.lamps.map Sp3.row)
  rc : Rows K H xc (b.contacts.map Ct.row)
theorem Fl.mono {K : PySem.W.Frag} {H H' : Hp} {fs : List (Str × V)} {b : Bd} {tn ts tr tl tc : Addr} {xr xl xc : List V} (s : Same H H') (f : Fl K H fs b tn ts tr tl tc xr xl xc) : Fl K H' fs b tn ts tr tl tc xr xl xc :=
  ⟨f.ln, f.ls, f.lr, f.ll, f.lc, Same.sqt s f.hn, Same.sqt s f.hs, Same.sqt s f.hr, Same.sqt s f.hl, Same.sqt s f.hc, f.rr.mono s, f.rl.mono s, f.rc.mono s⟩
/-- b with as few parts as a board may have at most -/
structure Few (b : Bd) : Prop where
  n : b.nodes.length ≤ 1000
  s : b.switches.length ≤ 1000
  r : b.relays.length ≤ 1000
  l : b.lamps.length ≤ 1000
  c : b.contacts.length ≤ 1000
  nz : ∀ z ∈ b.nodes, z.length ≤ 1000000
  sz : ∀ z ∈ b.switches, z.length ≤ 1000000
  rz : ∀ r ∈ b.relays, r.nm.length ≤ 1000000
  lz : ∀ r ∈ b.lamps, r.nm.length ≤ 1000000
def onlyNames : List Str := ["nodes", "switches", "relays", "lamps", "contacts", "_movers"]
/-- the board b stands at p -/
def BoardAt (K : PySem.W.Frag) (C : Addr) (H : Hp) (p : Addr) (b : Bd) : Prop := ∃ (dx : Addr) (fs : List (Str × V)) (tn ts tr tl tc tm : Addr) (xr xl xc : List V), H p = some (.ins C dx fs) ∧ Fl K H fs b tn ts tr tl tc xr xl xc ∧
  fs.lookup ("_movers" : Str) = some (.ref tm) ∧ SqT K H tm (b.movers.map V.str) ∧ ∀ m, m ∉ onlyNames → fs.lookup m = none
theorem BoardAt.mono {K : PySem.W.Frag} {C : Addr} {H H' : Hp} {p : Addr} {b : Bd} (s : Same H H') : BoardAt K C H p b → BoardAt K C H' p b
  | ⟨dx, fs, tn, ts, tr, tl, tc, tm, xr, xl, xc, hp, f, lm, hm, o⟩ => ⟨dx, fs, tn, ts, tr, tl, tc, tm, xr, xl, xc, s _ _ hp, f.mono s, lm, Same.sqt s hm, o⟩
/-! ### the three checks -/
def spSpans (K : PySem.W.Frag) (C : Addr) : Sp := fun vs H Q _ => ∃ (p dx : Addr) (fs : List (Str × V)) (b : Bd) (tn ts tr tl tc : Addr) (xr xl xc : List V), vs = [.ref p] ∧ H p = some (.ins C dx fs) ∧ Fl K H fs b tn ts tr tl tc xr xl xc ∧ Few b ∧
  (∀ r ∈ b.relays, spanB b.nodes r = true) ∧ (∀ r ∈ b.lamps, spanB b.nodes r = true) ∧ ∀ H', Same H H' → Q .non H'
theorem scSpans : FnScope ["self", "part"] ["self"] (defScope sBoardCheckSpans) := ⟨rfl, rfl, rfl, by decide +kernel, rfl, by decide +kernel, by decide +kernel⟩
theorem ok_spans {f fS C sp sg : Addr} {mc : Value} {fd fdS fdI : FuncData} {k : Nat} (F : Fun K "_check_spans" "Board._check_spans" sBoardCheckSpans f fd) (T : BTxt K mg C mc sp sg)
    (FS : Fun K "is_span" "is_span" sIsSpan fS fdS) (bS : Binds K fdS ["part", "nodes"] []) (gS : mg "is_span" = some (.ref fS)) (FI : Fun K "is_good_name" "is_good_name" sIsGoodName sg fdI) (bI : Binds K fdI ["text"] []) :
    FnOk P w K mg base CX0 (k + 3) f fd ["self"] (spSpans K C) := by
  have GS : FnOk P w K mg base CX0 (k + 2) fS fdS ["part", "nodes"] (spIsSpan K) := ok_isSpan FS T FI bI
  refine F.ok scSpans (fun vs H Q E h => ?_) (fun cdv A outer s H vs Q E hr h => ?_)
  · obtain ⟨p, _, _, _, _, _, _, _, _, _, _, _, rfl, _⟩ := h
    rfl
  · obtain ⟨p, dx, fs, b, tn, ts, tr, tl, tc, xr, xl, xc, rfl, hp, f, few, okr, okl, q⟩ := h
    refine ⟨_, pss_one (ps_for PassesOwn.never rfl (pi_tup (pe_op op_catA (pe_fld (pv 0) rfl) (pe_fld (pv 0) rfl))) (pg_name (i := 1) scSpans.nd rfl (.inl rfl))
      (pss_one (ps_if (pt_not (pt_val (pe_call GS hr (by rfl) gS FS.kp bS .nil pass0 (pa_cons (pv 1) (pa_cons (pe_fld (pv 0) rfl) pa_nil))))) (pss_one ps_never) pss_nil))), ?_⟩
    refine ⟨_, rfl, p, C, dx, _, _, rfl, hp, T.cl, T.nR, f.lr, _, rfl, p, C, dx, _, _, rfl, hp, T.cl, T.nL, f.ll, ?_⟩
    have lr := f.rr.len
    have ll := f.rl.len
    rw [List.length_map] at lr ll
    refine cat_any f.hr f.hl (by have := few.r; have := few.l; omega) fun t H1 s1 ht => ?_
    have rows : Rows K H1 (xr ++ xl) ((b.relays ++ b.lamps).map Sp3.row) := by
      rw [List.map_append]
      exact (f.rr.mono s1).app (f.rl.mono s1)
    refine ⟨t, rfl, ⟨_, ht⟩, for_tup (K := K) (a := t) (xs := xr ++ xl) (fun i σ H2 => ∃ z1 : Option V, σ = [some (.ref p), z1] ∧ Same H1 H2) ⟨none, rfl, Same.refl _⟩ (fun _ _ _ _ ⟨_, _, sm⟩ => Same.sqt sm ht) ?_ ?_⟩
    · rintro i v σ H2 hi ⟨z1, rfl, sm⟩
      obtain ⟨tt, rw_, rfl, hrow, hri⟩ := rows.at hi
      rw [List.getElem?_map] at hri
      obtain ⟨r, hr1, rfl⟩ := Option.map_eq_some_iff.mp hri
      have hm := List.mem_of_getElem? hr1
      have good : spanB b.nodes r = true ∧ r.nm.length ≤ 1000000 := by
        rcases List.mem_append.mp hm with h | h
        · exact ⟨okr r h, few.rz r h⟩
        · exact ⟨okl r h, few.lz r h⟩
      refine ⟨_, rfl, _, rfl, p, C, dx, _, _, rfl, sm _ _ (s1 _ _ hp), T.cl, T.nN, f.ln, tt, tn, r, b.nodes, rfl, Same.sqt sm hrow, .inr (Same.sqt (s1.trans sm) f.hn), good.2, fun H3 s3 => ⟨_, rfl, ?_⟩⟩
      rw [good.1]
      refine iteF ?_
      exact ⟨_, rfl, sm.trans s3⟩
    · rintro σ H2 ⟨z1, rfl, sm⟩
      exact q H2 (s1.trans sm)
def spCtc (K : PySem.W.Frag) (C : Addr) : Sp := fun vs H Q _ => ∃ (p dx : Addr) (fs : List (Str × V)) (b : Bd) (tn ts tr tl tc tm : Addr) (xr xl xc : List V), vs = [.ref p] ∧ H p = some (.ins C dx fs) ∧ Fl K H fs b tn ts tr tl tc xr xl xc ∧
  fs.lookup ("_movers" : Str) = some (.ref tm) ∧ SqT K H tm (b.movers.map V.str) ∧ b.contacts.length ≤ 40 ∧ (∀ c ∈ b.contacts, ctB b.nodes b.movers c = true) ∧ ∀ H', Same H H' → Q .non H'
theorem scCtc : FnScope ["self", "contact"] ["self"] (defScope sBoardCheckContacts) := ⟨rfl, rfl, rfl, by decide +kernel, rfl, by decide +kernel, by decide +kernel⟩
theorem ok_ctc {f fS C sp sg : Addr} {mc : Value} {fd fdS : FuncData} {k : Nat} (F : Fun K "_check_contacts" "Board._check_contacts" sBoardCheckContacts f fd) (T : BTxt K mg C mc sp sg)
    (FS : Fun K "is_contact" "is_contact" sIsContact fS fdS) (bS : Binds K fdS ["part", "nodes", "movers"] []) (gS : mg "is_contact" = some (.ref fS)) : FnOk P w K mg base CX0 (k + 2) f fd ["self"] (spCtc K C) := by
  have GS : FnOk P w K mg base CX0 (k + 1) fS fdS ["part", "nodes", "movers"] (spIsContact K) := ok_isContact FS T
  obtain ⟨t5, c5⟩ := T.c5
  refine F.ok scCtc (fun vs H Q E h => ?_) (fun cdv A outer s H vs Q E hr h => ?_)
  · obtain ⟨p, _, _, _, _, _, _, _, _, _, _, _, _, rfl, _⟩ := h
    rfl
  · obtain ⟨p, dx, fs, b, tn, ts, tr, tl, tc, tm, xr, xl, xc, rfl, hp, f, lm, hm, l40, okc, q⟩ := h
    refine ⟨_, pss_cons (ps_if (pt_cmpR op_gt (pe_callB call_len_seq (by rfl) T.len PySem.boot_len (pa_cons (pe_fld (pv 0) rfl) pa_nil)) (ClX.pe_cval (pe_glob (v := .ref C) rfl T.mgB rfl) rfl) (nomark _)) (pss_one ps_never) pss_nil)
      (pss_one (ps_for PassesOwn.never rfl (pi_tup (pe_fld (pv 0) rfl)) (pg_name (i := 1) scCtc.nd rfl (.inl rfl))
        (pss_one (ps_if (pt_not (pt_val (pe_call GS hr (by rfl) gS FS.kp bS .nil pass0 (pa_cons (pv 1) (pa_cons (pe_fld (pv 0) rfl) (pa_cons (pe_fld (pv 0) rfl) pa_nil)))))) (pss_one ps_never) pss_nil)))), ?_⟩
    have lc := f.rc.len
    rw [List.length_map] at lc
    refine ⟨_, rfl, p, C, dx, _, _, rfl, hp, T.cl, T.nC, f.lc, tc, _, rfl, .inr f.hc, C, mc, .int 40, _, rfl, T.cr, ⟨c5, ⟨_, rfl⟩⟩, _, _, rfl, rfl, _, rfl, ?_⟩
    rw [decide_eq_false (by omega)]
    refine iteF ?_
    refine ⟨_, rfl, p, C, dx, _, _, rfl, hp, T.cl, T.nC, f.lc, tc, rfl, ⟨_, f.hc⟩, for_tup (K := K) (a := tc) (xs := xc) (fun i σ H2 => ∃ z1 : Option V, σ = [some (.ref p), z1] ∧ Same H H2) ⟨none, rfl, Same.refl _⟩ (fun _ _ _ _ ⟨_, _, sm⟩ => Same.sqt sm f.hc) ?_ ?_⟩
    · rintro i v σ H2 hi ⟨z1, rfl, sm⟩
      obtain ⟨tt, rw_, rfl, hrow, hri⟩ := f.rc.at hi
      rw [List.getElem?_map] at hri
      obtain ⟨c, hc1, rfl⟩ := Option.map_eq_some_iff.mp hri
      have hm1 := List.mem_of_getElem? hc1
      refine ⟨_, rfl, _, rfl, p, C, dx, _, _, rfl, sm _ _ hp, T.cl, T.nN, f.ln, _, rfl, p, C, dx, _, _, rfl, sm _ _ hp, T.cl, T.nM, lm, tt, tn, tm, c, b.nodes, b.movers, rfl, Same.sqt sm hrow, .inr (Same.sqt sm f.hn), .inr (Same.sqt sm hm), fun H3 s3 => ⟨_, rfl, ?_⟩⟩
      rw [okc c hm1]
      refine iteF ?_
      exact ⟨_, rfl, sm.trans s3⟩
    · rintro σ H2 ⟨z1, rfl, sm⟩
      exact q H2 sm
def spChk (K : PySem.W.Frag) (C : Addr) : Sp := fun vs H Q _ => ∃ (p dx : Addr) (fs : List (Str × V)) (b : Bd) (tn ts tr tl tc tm : Addr) (xr xl xc : List V), vs = [.ref p] ∧ H p = some (.ins C dx fs) ∧ Fl K H fs b tn ts tr tl tc xr xl xc ∧
  fs.lookup ("_movers" : Str) = some (.ref tm) ∧ SqT K H tm (b.movers.map V.str) ∧ Few b ∧ b.Ok ∧ ∀ H', Same H H' → Q .non H'
theorem scChk : FnScope ["self", "lamps", "name", "_"] ["self"] (defScope sBoardCheckNames) := ⟨rfl, rfl, rfl, by decide +kernel, rfl, by decide +kernel, by decide +kernel⟩
theorem Few.mz {b : Bd} (f : Few b) : ∀ z ∈ b.movers, z.length ≤ 1000000 := fun z hz => by
  unfold Bd.movers at hz
  rcases List.mem_append.mp hz with h | h
  · exact f.sz z h
  · obtain ⟨r, hr, rfl⟩ := List.mem_map.mp h
    exact f.rz r hr
theorem ok_chk {f fA C sp sg : Addr} {mc : Value} {fd fdA fdI : FuncData} {k : Nat} (F : Fun K "_check_names" "Board._check_names" sBoardCheckNames f fd) (T : BTxt K mg C mc sp sg)
    (FA : Fun K "are_names" "are_names" sAreNames fA fdA) (bA : Binds K fdA ["names", "least", "most"] []) (gA : mg "are_names" = some (.ref fA)) (FI : Fun K "is_good_name" "is_good_name" sIsGoodName sg fdI) (bI : Binds K fdI ["text"] []) :
    FnOk P w K mg base CX0 (k + 3) f fd ["self"] (spChk K C) := by
  have GA : FnOk P w K mg base CX0 (k + 2) fA fdA ["names", "least", "most"] (spAreNames K) := ok_areNames FA T FI bI (fI := fA)
  obtain ⟨t1, c1⟩ := T.c1
  obtain ⟨t2, c2⟩ := T.c2
  obtain ⟨t3, c3⟩ := T.c3
  obtain ⟨t4, c4⟩ := T.c4
  obtain ⟨u2, g2⟩ := T.g2
  obtain ⟨u3, g3⟩ := T.g3
  refine F.ok scChk (fun vs H Q E h => ?_) (fun cdv A outer s H vs Q E hr h => ?_)
  · obtain ⟨p, _, _, _, _, _, _, _, _, _, _, _, _, rfl, _⟩ := h
    rfl
  · obtain ⟨p, dx, fs, b, tn, ts, tr, tl, tc, tm, xr, xl, xc, rfl, hp, f, lm, hm, few, ok, q⟩ := h
    refine ⟨_, pss_cons (ps_if (pt_not (pt_val (pe_call GA hr (by rfl) gA FA.kp bA .nil pass0 (pa_cons (pe_fld (pv 0) rfl) (pa_cons (pe_glob (v := .int 2) rfl g2 ⟨_, rfl⟩) (pa_cons (ClX.pe_cval (pe_glob (v := .ref C) rfl T.mgB rfl) rfl) pa_nil)))))) (pss_one ps_never) pss_nil)
      (pss_cons (ps_if (PW.pt (pw_or (pt_cmpR op_gt (pe_callB call_len_seq (by rfl) T.len PySem.boot_len (pa_cons (pe_fld (pv 0) rfl) pa_nil)) (ClX.pe_cval (pe_glob (v := .ref C) rfl T.mgB rfl) rfl) (nomark _))
          (pw_or1 (pt_cmpR op_gt (pe_callB call_len_seq (by rfl) T.len PySem.boot_len (pa_cons (pe_fld (pv 0) rfl) pa_nil)) (ClX.pe_cval (pe_glob (v := .ref C) rfl T.mgB rfl) rfl) (nomark _))))) (pss_one ps_never) pss_nil)
      (pss_cons (ps_if (pt_not (pt_val (pe_call GA hr (by rfl) gA FA.kp bA .nil pass0 (pa_cons (pe_fld (pv 0) rfl) (pa_cons pe_int (pa_cons (pe_callB call_len_seq (by rfl) T.len PySem.boot_len (pa_cons (pe_fld (pv 0) rfl) pa_nil)) pa_nil)))))) (pss_one ps_never) pss_nil)
      (pss_cons (ps_setLc (i := 1) (own := [("name", 2), ("_", 3)]) (g := gTup K 3 (gCons (gName 2) (gCons (gName 3) (gCons (gName 3) gNil)))) (tt := tYes) rfl scChk.nd rfl rfl (sw_true rfl rfl rfl (by decide +kernel)) (pi_tup (pe_fld (pv 0) rfl)) (blkOk_by (N := ["self", "lamps", "name", "_"]) (sc := defScope sBoardCheckNames) (by decide +kernel))
          (fun _ _ _ _ _ => pg_tup rfl (pgs_cons (pg_name (i := 2) scChk.nd rfl (Or.inl rfl)) (pgs_cons (pg_name (i := 3) scChk.nd rfl (Or.inl rfl)) (pgs_cons (pg_name (i := 3) scChk.nd rfl (Or.inl rfl)) pgs_nil)))) (fun _ _ _ _ _ => pts_nil) (fun _ _ _ _ _ => pv 2))
      (pss_one (ps_if (pt_not (pt_val (pe_call GA hr (by rfl) gA FA.kp bA .nil pass0 (pa_cons (pv 1) (pa_cons (pe_glob (v := .int 1) rfl g3 ⟨_, rfl⟩) (pa_cons (ClX.pe_cval (pe_glob (v := .ref C) rfl T.mgB rfl) rfl) pa_nil)))))) (pss_one ps_never) pss_nil))))), ?_⟩
    -- the nodes
    refine ⟨_, rfl, p, C, dx, _, _, rfl, hp, T.cl, T.nN, f.ln, C, mc, .int 16, _, rfl, T.cr, ⟨c1, ⟨_, rfl⟩⟩, tn, b.nodes, 2, 16, rfl, .inr f.hn, few.nz, few.n, fun H1 s1 => ⟨_, rfl, ?_⟩⟩
    rw [ok.nodes]
    refine iteF ?_
    -- the counts
    have lr := f.rr.len
    rw [List.length_map] at lr
    refine ⟨_, rfl, p, C, dx, _, _, rfl, s1 _ _ hp, T.cl, T.nS, f.ls, ts, _, rfl, .inr (Same.sqt s1 f.hs), C, mc, .int 6, _, rfl, T.cr, ⟨c2, ⟨_, rfl⟩⟩, _, _, rfl, rfl, _, rfl, ?_⟩
    rw [decide_eq_false (by rw [List.length_map]; have := ok.sw; omega)]
    refine iteF ?_
    refine ⟨_, rfl, p, C, dx, _, _, rfl, s1 _ _ hp, T.cl, T.nR, f.lr, tr, _, rfl, .inr (Same.sqt s1 f.hr), C, mc, .int 8, _, rfl, T.cr, ⟨c3, ⟨_, rfl⟩⟩, _, _, rfl, rfl, _, rfl, ?_⟩
    rw [decide_eq_false (by have := ok.rl; omega)]
    refine iteF ?_
    -- the movers
    have ml : b.movers.length ≤ 1000 := by
      unfold Bd.movers
      rw [List.length_append, List.length_map]
      have := ok.sw
      have := ok.rl
      omega
    refine ⟨_, rfl, p, C, dx, _, _, rfl, s1 _ _ hp, T.cl, T.nM, lm, _, rfl, p, C, dx, _, _, rfl, s1 _ _ hp, T.cl, T.nM, lm, tm, _, rfl, .inr (Same.sqt s1 hm), tm, b.movers, 0, b.movers.length, by rw [List.length_map]; rfl, .inr (Same.sqt s1 hm), few.mz, ml, fun H2 s2 => ⟨_, rfl, ?_⟩⟩
    rw [ok.mv]
    refine iteF ?_
    have s12 := s1.trans s2
    -- the lamps
    have ll := f.rl.len
    rw [List.length_map] at ll
    refine ⟨_, rfl, p, C, dx, _, _, rfl, s12 _ _ hp, T.cl, T.nL, f.ll, tl, rfl, ⟨_, Same.sqt s12 f.hl⟩, fun D hD => ?_⟩
    refine lc_tup (K := K) (a := tl) (xs := xl) (fun i H3 => Same H2 H3 ∧ H3 D = some (.lst (((b.lamps.map (·.nm)).take i).map V.str)))
      ⟨same_upd hD, upd_same⟩ (fun i H3 _ h => Same.sqt (s12.trans h.1) f.hl) ?_ ?_
    · rintro i v H3 hi ⟨sm, hd⟩
      have hil := (List.getElem?_eq_some_iff.mp hi).1
      obtain ⟨tt, rw_, rfl, hrow, hri⟩ := f.rl.at hi
      rw [List.getElem?_map] at hri
      obtain ⟨r, hr1, rfl⟩ := Option.map_eq_some_iff.mp hri
      refine ⟨tt, _, rfl, Same.sqt (s12.trans sm) hrow, rfl, _, _, rfl, _, _, rfl, _, _, rfl, rfl, rfl, ?_⟩
      refine yesT ?_
      refine ⟨_, rfl, _, hd, ?_, same_mut sm hD, ?_⟩
      · rw [List.length_map, List.length_take]
        have := few.l
        exact szlt (by rw [List.length_map]; omega)
      · rw [upd_same, ← map_snoc, List.take_add_one, List.getElem?_map, hr1]
        rfl
    · rintro H3 ⟨sm, hd⟩
      rw [ll, ← List.length_map (f := fun r : Sp3 => r.nm), List.take_length] at hd
      refine ⟨_, rfl, C, mc, .int 8, _, rfl, T.cr, ⟨c4, ⟨_, rfl⟩⟩, D, b.lamps.map (·.nm), 1, 8, rfl, .inl (sq hd), fun z hz => ?_, by rw [List.length_map]; exact few.l, fun H4 s4 => ⟨_, rfl, ?_⟩⟩
      · obtain ⟨r, hr1, rfl⟩ := List.mem_map.mp hz
        exact few.lz r hr1
      · rw [ok.lp]
        refine iteF ?_
        exact q H4 ((s12.trans sm).trans s4)
/-! ### Board.__init__ -/
def KeepP (p : Addr) (H H' : Hp) : Prop := ∀ a o, a ≠ p → H a = some o → H' a = some o
theorem KeepP.of {p : Addr} {H H' : Hp} (s : Same H H') : KeepP p H H' := fun a o _ h => s a o h
theorem KeepP.upd {p : Addr} {H : Hp} {o : HO} : KeepP p H (L2.upd H p o) := fun a x n h => by rw [upd_ne n]; exact h
theorem KeepP.trans {p : Addr} {H H1 H2 : Hp} (a : KeepP p H H1) (b : KeepP p H1 H2) : KeepP p H H2 := fun x o n h => b x o n (a x o n h)
theorem KeepP.sqt {K : PySem.W.Frag} {p a C dx : Addr} {fs : List (Str × V)} {H H' : Hp} {xs : List V} (k : KeepP p H H') (hp : H p = some (.ins C dx fs)) (h : SqT K H a xs) : SqT K H' a xs := by
  rcases h with (h | ⟨o, h⟩) | h
  · exact .inl (.inl (k _ _ (ne_of h hp (by intro z; cases z)) h))
  · exact .inl (.inr ⟨o, k _ _ (ne_of h hp (by intro z; cases z)) h⟩)
  · exact .inr h
theorem KeepP.rows {K : PySem.W.Frag} {p C dx : Addr} {fs : List (Str × V)} {H H' : Hp} (k : KeepP p H H') (hp : H p = some (.ins C dx fs)) : ∀ {xs : List V} {rs : List (List V)}, Rows K H xs rs → Rows K H' xs rs
  | [], [], _ => True.intro
  | _ :: _, _ :: _, ⟨⟨t, e, h⟩, r⟩ => ⟨⟨t, e, k.sqt hp h⟩, k.rows hp r⟩
/-- rows that may be lists -/
def RowsA (K : PySem.W.Frag) (H : Hp) : List V → List (List V) → Prop
  | [], [] => True
  | v :: xs, r :: rs => (∃ t, v = .ref t ∧ Sq K H t r) ∧ RowsA K H xs rs
  | _, _ => False
theorem RowsA.of {K : PySem.W.Frag} {H : Hp} : ∀ {xs : List V} {rs : List (List V)}, Rows K H xs rs → RowsA K H xs rs
  | [], [], _ => True.intro
  | _ :: _, _ :: _, ⟨⟨t, e, h⟩, r⟩ => ⟨⟨t, e, .inr h⟩, RowsA.of r⟩
theorem RowsA.len {K : PySem.W.Frag} {H : Hp} : ∀ {xs : List V} {rs : List (List V)}, RowsA K H xs rs → xs.length = rs.length
  | [], [], _ => rfl
  | _ :: _, _ :: _, ⟨_, r⟩ => congrArg (· + 1) r.len
theorem RowsA.at {K : PySem.W.Frag} {H : Hp} : ∀ {xs : List V} {rs : List (List V)} {i : Nat} {v : V}, RowsA K H xs rs → xs[i]? = some v → ∃ t r, v = .ref t ∧ Sq K H t r ∧ rs[i]? = some r
  | [], [], _, _, _, h => by simp at h
  | _ :: _, r :: _, 0, _, ⟨⟨t, e, h⟩, _⟩, hi => ⟨t, r, by rw [← Option.some.inj hi]; exact e, h, rfl⟩
  | _ :: _, _ :: _, i + 1, _, ⟨_, r⟩, hi => RowsA.at (i := i) r hi
@[irreducible] def rTup (K : PySem.W.Frag) : List V → Hp → VK → Prop := fun xs H Q => ∃ p ys, xs = [.ref p] ∧ ((SqL K H p ys ∧ ∀ l, H l = none → Q (.ref l) (upd H l (.tup ys))) ∨ (SqT K H p ys ∧ Q (.ref p) H))
theorem call_tupA {X : Cx} : CallR X (.type "tuple") (rTup X.K) := by
  unfold rTup
  exact call_tuple_of
theorem tup_any {K : PySem.W.Frag} {a : Addr} {xs : List V} {H : Hp} {Q : VK} (h : Sq K H a xs) (q : ∀ p H', Same H H' → SqT K H' p xs → Q (.ref p) H') :
    rTup K [.ref a] H Q := by
  unfold rTup
  rcases h with h | h
  · exact ⟨a, xs, rfl, .inl ⟨h, fun l nl => q l _ (same_upd nl) (st upd_same)⟩⟩
  · exact ⟨a, xs, rfl, .inr ⟨h, q a H (Same.refl H) h⟩⟩
def fl1 (tn : Addr) : List (Str × V) := putF "nodes" (.ref tn) []
def fl2 (tn ts : Addr) : List (Str × V) := putF "switches" (.ref ts) (fl1 tn)
def fl3 (tn ts tr : Addr) : List (Str × V) := putF "relays" (.ref tr) (fl2 tn ts)
def fl4 (tn ts tr tl : Addr) : List (Str × V) := putF "lamps" (.ref tl) (fl3 tn ts tr)
def fl5 (tn ts tr tl tc : Addr) : List (Str × V) := putF "contacts" (.ref tc) (fl4 tn ts tr tl)
def fl6 (tn ts tr tl tc tm : Addr) : List (Str × V) := putF "_movers" (.ref tm) (fl5 tn ts tr tl tc)
theorem fl5_at (tn ts tr tl tc : Addr) (m : Str) : (fl5 tn ts tr tl tc).lookup m = if m = "contacts" then some (.ref tc) else if m = "lamps" then some (.ref tl) else if m = "relays" then some (.ref tr) else if m = "switches" then some (.ref ts) else if m = "nodes" then some (.ref tn) else none := by
  unfold fl5 fl4 fl3 fl2 fl1
  rw [lookup_putF, lookup_putF, lookup_putF, lookup_putF, lookup_putF]
  rfl
theorem fl6_at (tn ts tr tl tc tm : Addr) (m : Str) : (fl6 tn ts tr tl tc tm).lookup m = if m = "_movers" then some (.ref tm) else (fl5 tn ts tr tl tc).lookup m := by
  unfold fl6
  rw [lookup_putF]
theorem fl_len5 (tn ts tr tl tc : Addr) : (fl5 tn ts tr tl tc).length ≤ 5 ∧ (fl4 tn ts tr tl).length ≤ 4 ∧ (fl3 tn ts tr).length ≤ 3 ∧ (fl2 tn ts).length ≤ 2 ∧ (fl1 tn).length ≤ 1 := by
  have h1 : (fl1 tn).length ≤ 0 + 1 := putF_len _ _ []
  have h2 : (fl2 tn ts).length ≤ (fl1 tn).length + 1 := putF_len _ _ _
  have h3 : (fl3 tn ts tr).length ≤ (fl2 tn ts).length + 1 := putF_len _ _ _
  have h4 : (fl4 tn ts tr tl).length ≤ (fl3 tn ts tr).length + 1 := putF_len _ _ _
  have h5 : (fl5 tn ts tr tl tc).length ≤ (fl4 tn ts tr tl).length + 1 := putF_len _ _ _
  omega
theorem fl5_nodes (tn ts tr tl tc : Addr) : (fl5 tn ts tr tl tc).lookup ("nodes" : Str) = some (.ref tn) := by
  rw [fl5_at, if_neg (by decide +kernel), if_neg (by decide +kernel), if_neg (by decide +kernel), if_neg (by decide +kernel), if_pos rfl]
theorem fl5_switches (tn ts tr tl tc : Addr) : (fl5 tn ts tr tl tc).lookup ("switches" : Str) = some (.ref ts) := by
  rw [fl5_at, if_neg (by decide +kernel), if_neg (by decide +kernel), if_neg (by decide +kernel), if_pos rfl]
theorem fl5_relays (tn ts tr tl tc : Addr) : (fl5 tn ts tr tl tc).lookup ("relays" : Str) = some (.ref tr) := by
  rw [fl5_at, if_neg (by decide +kernel), if_neg (by decide +kernel), if_pos rfl]
theorem fl5_lamps (tn ts tr tl tc : Addr) : (fl5 tn ts tr tl tc).lookup ("lamps" : Str) = some (.ref tl) := by
  rw [fl5_at, if_neg (by decide +kernel), if_pos rfl]
theorem fl5_contacts (tn ts tr tl tc : Addr) : (fl5 tn ts tr tl tc).lookup ("contacts" : Str) = some (.ref tc) := by
  rw [fl5_at, if_pos rfl]
theorem fl6_old (tn ts tr tl tc tm : Addr) {m : Str} (h : ¬ m = "_movers") : (fl6 tn ts tr tl tc tm).lookup m = (fl5 tn ts tr tl tc).lookup m := by rw [fl6_at, if_neg h]
theorem fl6_only (tn ts tr tl tc tm : Addr) (m : Str) (h : m ∉ onlyNames) : (fl6 tn ts tr tl tc tm).lookup m = none := by
  unfold onlyNames at h
  simp only [List.mem_cons, List.not_mem_nil, or_false, not_or] at h
  rw [fl6_at, if_neg h.2.2.2.2.2, fl5_at, if_neg h.2.2.2.2.1, if_neg h.2.2.2.1, if_neg h.2.2.1, if_neg h.2.1, if_neg h.1]
theorem fl5_only (tn ts tr tl tc : Addr) (m : Str) (h : m ∉ onlyNames) : (fl5 tn ts tr tl tc).lookup m = none := by
  unfold onlyNames at h
  simp only [List.mem_cons, List.not_mem_nil, or_false, not_or] at h
  rw [fl5_at, if_neg h.2.2.2.2.1, if_neg h.2.2.2.1, if_neg h.2.2.1, if_neg h.2.1, if_neg h.1]
/-- what is handed to Board(..): lists or tuples of the parts -/
structure Given (K : PySem.W.Frag) (H : Hp) (b : Bd) (an al as ar ac : Addr) : Prop where
  n : Sq K H an (b.nodes.map V.str)
  s : Sq K H as (b.switches.map V.str)
  l : ∃ xs, Sq K H al xs ∧ RowsA K H xs (b.lamps.map Sp3.row)
  r : ∃ xs, Sq K H ar xs ∧ RowsA K H xs (b.relays.map Sp3.row)
  c : ∃ xs, Sq K H ac xs ∧ RowsA K H xs (b.contacts.map Ct.row)
theorem RowsA.mono {K : PySem.W.Frag} {H H' : Hp} (s : Same H H') : ∀ {xs : List V} {rs : List (List V)}, RowsA K H xs rs → RowsA K H' xs rs
  | [], [], _ => True.intro
  | _ :: _, _ :: _, ⟨⟨t, e, h⟩, r⟩ => ⟨⟨t, e, Same.sq s h⟩, r.mono s⟩
theorem Given.mono {K : PySem.W.Frag} {H H' : Hp} {b : Bd} {an al as ar ac : Addr} (s : Same H H') (g : Given K H b an al as ar ac) : Given K H' b an al as ar ac :=
  ⟨Same.sq s g.n, Same.sq s g.s, g.l.imp fun _ h => ⟨Same.sq s h.1, h.2.mono s⟩, g.r.imp fun _ h => ⟨Same.sq s h.1, h.2.mono s⟩, g.c.imp fun _ h => ⟨Same.sq s h.1, h.2.mono s⟩⟩
def spInit (K : PySem.W.Frag) (C : Addr) : Sp := fun vs H Q _ => ∃ (p dx : Addr) (H0 : Hp) (an al as ar ac : Addr) (b : Bd), vs = [.ref p, .ref an, .ref al, .ref as, .ref ar, .ref ac] ∧ H p = some (.ins C dx []) ∧ H0 p = none ∧ Same H0 H ∧ Given K H0 b an al as ar ac ∧ Few b ∧ b.Ok ∧
  ∀ H', Same H0 H' → BoardAt K C H' p b → Q .non H'
theorem scInit : FnScope ["self", "nodes", "lamps", "switches", "relays", "contacts", "relay", "lamp", "contact", "name", "_"] ["self", "nodes", "lamps", "switches", "relays", "contacts"] (defScope sBoardInit) := ⟨rfl, rfl, rfl, by decide +kernel, rfl, by decide +kernel, by decide +kernel⟩
structure BMeths (K : PySem.W.Frag) (C fS fN fC : Addr) : Prop where
  ms : Meth K C "_check_spans" fS
  mn : Meth K C "_check_names" fN
  mc : Meth K C "_check_contacts" fC
theorem rows_loop {K : PySem.W.Frag} {H1 : Hp} {D : Addr} {xs : List V} {rs : List (List V)} {vs : List Nat} {σ : L2.St} {j : Nat} {Qd : Hp → Prop} {J : It} {te : TE} {G : Hp → Prop} (wj : Walk J xs.length G (YAt xs)) (hS : ∀ H2, Same H1 H2 → G H2) (hR : RowsA K H1 xs rs) (hlen : rs.length ≤ 1000) (hD : H1 D = none)
    (hw : ∀ t, wipe ((wipe σ vs).set j (some (.ref t))) vs = wipe σ vs)
    (ht : ∀ t H2 r (Q : VK), Same H1 H2 → Sq K H2 t r → (∀ p H3, Same H2 H3 → SqT K H3 p r → Q (.ref p) H3) → te ((wipe σ vs).set j (some (.ref t))) H2 Q)
    (hd : ∀ H2 ys, Same H1 H2 → H2 D = some (.lst ys) → Rows K H2 ys rs → Qd H2) :
    ∃ W : Nat → Nat → Hp → Prop, (∃ m, W 0 m (upd H1 D (.lst []))) ∧ ∀ i m H, W i m H →
      (J.stop i H ∧ Qd H) ∨ (J.go i H ∧ ∃ Nx : Hp → Prop, (∀ H', Nx H' → ∃ m', m' < m ∧ W (i + 1) m' H') ∧ ∀ x H', J.yld i H x H' → gName j x (wipe σ vs) H' fun σ2 H2 => wipe σ2 vs = wipe σ vs ∧ tYes σ2 H2 fun b H3 =>
        if b = true then te σ2 H3 fun y H4 => ∃ acc, H4 D = some (.lst acc) ∧ acc.length < sizeLine ∧ Nx (upd H4 D (.lst (acc ++ [y]))) else Nx H3) := by
  refine lc_it wj (fun i H2 => ∃ ys, Same H1 H2 ∧ H2 D = some (.lst ys) ∧ Rows K H2 ys (rs.take i)) ⟨[], same_upd hD, upd_same, True.intro⟩ (fun i H2 _ ⟨_, sm, _⟩ => hS H2 sm) ?_ ?_
  · rintro i v H2 H3 hi ⟨ys, sm, hd2, hr2⟩ ⟨rfl, hv⟩
    obtain ⟨t, r, rfl, hrow, hri⟩ := hR.at hv
    refine ⟨hw t, ?_⟩
    refine yesT ?_
    refine ht t H3 r _ sm (Same.sq sm hrow) fun p H4 s4 hp => ?_
    have nD : ∀ q w, SqT K H4 q w → SqT K (upd H4 D (.lst (ys ++ [.ref p]))) q w := fun q w hq => by
      have hd4 := s4 _ _ hd2
      rcases hq with (hq | ⟨o, hq⟩) | hq
      · exact .inl (.inl (by rw [upd_ne (ne_of hq hd4 (by intro z; cases z))]; exact hq))
      · exact .inl (.inr ⟨o, by rw [upd_ne (ne_of hq hd4 (by intro z; cases z))]; exact hq⟩)
      · exact .inr hq
    refine ⟨ys, s4 _ _ hd2, ?_, ys ++ [.ref p], same_mut (sm.trans s4) hD, upd_same, ?_⟩
    · have := hr2.len
      rw [List.length_take] at this
      exact szlt (by omega)
    · rw [List.take_add_one, hri]
      have up : ∀ {xs : List V} {ws : List (List V)}, Rows K H4 xs ws → Rows K (upd H4 D (.lst (ys ++ [.ref p]))) xs ws := by
        intro xs
        induction xs with
        | nil => intro ws h; cases ws with | nil => exact True.intro | cons _ _ => exact h
        | cons x xs ih => intro ws h; cases ws with | nil => exact h | cons w ws => exact ⟨h.1.imp fun q y => ⟨y.1, nD _ _ y.2⟩, ih h.2⟩
      exact (up (hr2.mono s4)).snoc (nD _ _ hp)
  · rintro H2 ⟨ys, sm, hd2, hr2⟩
    rw [hR.len, List.take_length] at hr2
    exact hd H2 ys sm hd2 hr2
theorem seq_rows {K : PySem.W.Frag} {H1 : Hp} {a : Addr} {xs : List V} {rs : List (List V)} {vs : List Nat} {σ : L2.St} {j : Nat} {Qd : Addr → Hp → Prop} {te : TE} (hq : Sq K H1 a xs) (hR : RowsA K H1 xs rs) (hlen : rs.length ≤ 1000)
    (hw : ∀ t, wipe ((wipe σ vs).set j (some (.ref t))) vs = wipe σ vs)
    (ht : ∀ t H2 r (Q : VK), Same H1 H2 → Sq K H2 t r → (∀ p H3, Same H2 H3 → SqT K H3 p r → Q (.ref p) H3) → te ((wipe σ vs).set j (some (.ref t))) H2 Q)
    (hd : ∀ D H2 ys, Same H1 H2 → H2 D = some (.lst ys) → Rows K H2 ys rs → Qd D H2) :
    (SqL K H1 a xs ∧ ∀ D, H1 D = none → ∃ W : Nat → Nat → Hp → Prop, (∃ m, W 0 m (upd H1 D (.lst []))) ∧ ∀ i m H, W i m H →
      ((Itl K a).stop i H ∧ Qd D H) ∨ ((Itl K a).go i H ∧ ∃ Nx : Hp → Prop, (∀ H', Nx H' → ∃ m', m' < m ∧ W (i + 1) m' H') ∧ ∀ x H', (Itl K a).yld i H x H' → gName j x (wipe σ vs) H' fun σ2 H2 => wipe σ2 vs = wipe σ vs ∧ tYes σ2 H2 fun b H3 =>
        if b = true then te σ2 H3 fun y H4 => ∃ acc, H4 D = some (.lst acc) ∧ acc.length < sizeLine ∧ Nx (upd H4 D (.lst (acc ++ [y]))) else Nx H3)) ∨
    (SqT K H1 a xs ∧ ∀ D, H1 D = none → ∃ W : Nat → Nat → Hp → Prop, (∃ m, W 0 m (upd H1 D (.lst []))) ∧ ∀ i m H, W i m H →
      ((Itt K a).stop i H ∧ Qd D H) ∨ ((Itt K a).go i H ∧ ∃ Nx : Hp → Prop, (∀ H', Nx H' → ∃ m', m' < m ∧ W (i + 1) m' H') ∧ ∀ x H', (Itt K a).yld i H x H' → gName j x (wipe σ vs) H' fun σ2 H2 => wipe σ2 vs = wipe σ vs ∧ tYes σ2 H2 fun b H3 =>
        if b = true then te σ2 H3 fun y H4 => ∃ acc, H4 D = some (.lst acc) ∧ acc.length < sizeLine ∧ Nx (upd H4 D (.lst (acc ++ [y]))) else Nx H3)) := by
  rcases hq with h | h
  · exact .inl ⟨h, fun D hD => rows_loop walk_list (fun G y => y.seq h) hR hlen hD hw ht (hd D)⟩
  · exact .inr ⟨h, fun D hD => rows_loop walk_tup (fun G y => Same.sqt y h) hR hlen hD hw ht (hd D)⟩
theorem bt_tuple : bootBuiltins "tuple" = some (.type "tuple") := by decide +kernel
theorem ok_init {f fS fN fC fI1 fI2 fI3 C sp sg : Addr} {mc : Value} {fd fdS fdN fdC fdI1 fdI2 fdI3 fdI : FuncData} {k : Nat} (F : Fun K "__init__" "Board.__init__" sBoardInit f fd) (T : BTxt K mg C mc sp sg) (M : BMeths K C fS fN fC)
    (FS : Fun K "_check_spans" "Board._check_spans" sBoardCheckSpans fS fdS) (bS : Binds K fdS ["self"] []) (FN : Fun K "_check_names" "Board._check_names" sBoardCheckNames fN fdN) (bN : Binds K fdN ["self"] [])
    (FC : Fun K "_check_contacts" "Board._check_contacts" sBoardCheckContacts fC fdC) (bC : Binds K fdC ["self"] [])
    (F1 : Fun K "is_span" "is_span" sIsSpan fI1 fdI1) (b1 : Binds K fdI1 ["part", "nodes"] []) (g1 : mg "is_span" = some (.ref fI1))
    (F2 : Fun K "are_names" "are_names" sAreNames fI2 fdI2) (b2 : Binds K fdI2 ["names", "least", "most"] []) (g2 : mg "are_names" = some (.ref fI2))
    (F3 : Fun K "is_contact" "is_contact" sIsContact fI3 fdI3) (b3 : Binds K fdI3 ["part", "nodes", "movers"] []) (g3 : mg "is_contact" = some (.ref fI3))
    (FI : Fun K "is_good_name" "is_good_name" sIsGoodName sg fdI) (bI : Binds K fdI ["text"] []) :
    FnOk P w K mg base CX0 (k + 4) f fd ["self", "nodes", "lamps", "switches", "relays", "contacts"] (spInit K C) := by
  have GS : FnOk P w K mg base CX0 (k + 3) fS fdS ["self"] (spSpans K C) := ok_spans FS T F1 b1 g1 FI bI
  have GN : FnOk P w K mg base CX0 (k + 3) fN fdN ["self"] (spChk K C) := ok_chk FN T F2 b2 g2 FI bI
  have GC : FnOk P w K mg base CX0 (k + 2) fC fdC ["self"] (spCtc K C) := ok_ctc FC T F3 b3 g3
  refine F.ok scInit (fun vs H Q E h => ?_) (fun cdv A outer s H vs Q E hr h => ?_)
  · obtain ⟨p, dx, H0, an, al, as, ar, ac, b, rfl, _⟩ := h
    rfl
  · obtain ⟨p, dx, H0, an, al, as, ar, ac, b, rfl, hp, np, s0, gv, few, ok, q⟩ := h
    have hr2 : Room (k + 2) _ := hr.mono (Nat.le_succ _)
    refine ⟨_, pss_cons (ps_fld (pv 0) (pe_callTy call_tupA (by rfl) T.tup (by decide +kernel) (pa_cons (pv 1) pa_nil)) rfl)
      (pss_cons (ps_fld (pv 0) (pe_callTy call_tupA (by rfl) T.tup (by decide +kernel) (pa_cons (pv 3) pa_nil)) rfl)
      (pss_cons (ps_fld (pv 0) (pe_callTy call_tupA (by rfl) T.tup (by decide +kernel) (pa_cons (pe_lc (own := [("relay", 6)]) (g := gName 6) (tt := tYes) (te := tCB (rTup K) (tCons (tVar 6) tNil)) rfl scInit.nd (pi_seqA (pv 4)) (blkOk_by (N := ["self", "nodes", "lamps", "switches", "relays", "contacts", "relay", "lamp", "contact", "name", "_"]) (sc := defScope sBoardInit) (by decide +kernel)) (fun _ _ _ _ _ => pg_name (i := 6) scInit.nd rfl (Or.inl rfl)) (fun _ _ _ _ _ => pts_nil)
          (fun _ _ _ _ _ => pe_callTy call_tupA (by rfl) T.tup bt_tuple (pa_cons (pv 6) pa_nil))) pa_nil)) rfl)
      (pss_cons (ps_fld (pv 0) (pe_callTy call_tupA (by rfl) T.tup (by decide +kernel) (pa_cons (pe_lc (own := [("lamp", 7)]) (g := gName 7) (tt := tYes) (te := tCB (rTup K) (tCons (tVar 7) tNil)) rfl scInit.nd (pi_seqA (pv 2)) (blkOk_by (N := ["self", "nodes", "lamps", "switches", "relays", "contacts", "relay", "lamp", "contact", "name", "_"]) (sc := defScope sBoardInit) (by decide +kernel)) (fun _ _ _ _ _ => pg_name (i := 7) scInit.nd rfl (Or.inl rfl)) (fun _ _ _ _ _ => pts_nil)
          (fun _ _ _ _ _ => pe_callTy call_tupA (by rfl) T.tup bt_tuple (pa_cons (pv 7) pa_nil))) pa_nil)) rfl)
      (pss_cons (ps_fld (pv 0) (pe_callTy call_tupA (by rfl) T.tup (by decide +kernel) (pa_cons (pe_lc (own := [("contact", 8)]) (g := gName 8) (tt := tYes) (te := tCB (rTup K) (tCons (tVar 8) tNil)) rfl scInit.nd (pi_seqA (pv 5)) (blkOk_by (N := ["self", "nodes", "lamps", "switches", "relays", "contacts", "relay", "lamp", "contact", "name", "_"]) (sc := defScope sBoardInit) (by decide +kernel)) (fun _ _ _ _ _ => pg_name (i := 8) scInit.nd rfl (Or.inl rfl)) (fun _ _ _ _ _ => pts_nil)
          (fun _ _ _ _ _ => pe_callTy call_tupA (by rfl) T.tup bt_tuple (pa_cons (pv 8) pa_nil))) pa_nil)) rfl)
      (pss_cons (ps_expr (pe_meth0 (pv 0) T.cl M.ms GS hr bS .nil pass0))
      (pss_cons (ps_fld (pv 0) (pe_op op_catA (pe_fld (pv 0) rfl) (pe_callTy call_tupA (by rfl) T.tup (by decide +kernel) (pa_cons (pe_lc (own := [("name", 9), ("_", 10)]) (g := gTup K 3 (gCons (gName 9) (gCons (gName 10) (gCons (gName 10) gNil)))) (tt := tYes) rfl scInit.nd (pi_tup (pe_fld (pv 0) rfl)) (blkOk_by (N := ["self", "nodes", "lamps", "switches", "relays", "contacts", "relay", "lamp", "contact", "name", "_"]) (sc := defScope sBoardInit) (by decide +kernel))
          (fun _ _ _ _ _ => pg_tup rfl (pgs_cons (pg_name (i := 9) scInit.nd rfl (Or.inl rfl)) (pgs_cons (pg_name (i := 10) scInit.nd rfl (Or.inl rfl)) (pgs_cons (pg_name (i := 10) scInit.nd rfl (Or.inl rfl)) pgs_nil)))) (fun _ _ _ _ _ => pts_nil) (fun _ _ _ _ _ => pv 9)) pa_nil))) rfl)
      (pss_cons (ps_expr (pe_meth0 (pv 0) T.cl M.mn GN hr bN .nil pass0))
      (pss_one (ps_expr (pe_meth0 (pv 0) T.cl M.mc GC hr2 bC .nil pass0)))))))))), ?_⟩
    -- nodes
    refine ⟨_, rfl, ?_⟩
    refine tup_any (Same.sq s0 gv.n) fun tn H1 s1 hn => ?_
    refine ⟨_, rfl, p, C, dx, _, rfl, s1 _ _ hp, T.cl, T.nN, by decide, ?_⟩
    have e1 : Same H0 (upd H1 p (.ins C dx (fl1 tn))) := same_mut (s0.trans s1) np
    -- switches
    refine ⟨_, rfl, ?_⟩
    refine tup_any (Same.sq e1 gv.s) fun ts H2 s2 hs => ?_
    refine ⟨_, rfl, p, C, dx, _, rfl, s2 _ _ upd_same, T.cl, T.nS, by have := fl_len5 tn ts p p p; exact Nat.lt_of_le_of_lt this.2.2.2.2 (by decide), ?_⟩
    have e2 : Same H0 (upd H2 p (.ins C dx (fl2 tn ts))) := same_mut (e1.trans s2) np
    -- relays
    obtain ⟨xr0, gr, rr0⟩ := gv.r
    obtain ⟨xl0, gl, rl0⟩ := gv.l
    obtain ⟨xc0, gc, rc0⟩ := gv.c
    have gr2 := Same.sq e2 gr
    have hr3 := Same.sq e2 gr
    refine ⟨_, rfl, ar, xr0, rfl, seq_rows hr3 (rr0.mono e2) (by rw [List.length_map]; exact few.r) (fun _ => rfl) (fun t G r Q' _ h q' => ⟨_, rfl, tup_any h q'⟩) fun D1 H3 yr s3 hD1 rr => ?_⟩
    refine tup_any (.inl (sq hD1)) fun tr H4 s4 htr => ?_
    refine ⟨_, rfl, p, C, dx, _, rfl, s4 _ _ (s3 _ _ upd_same), T.cl, T.nR, by have := fl_len5 tn ts p p p; exact Nat.lt_of_le_of_lt this.2.2.2.1 (by decide), ?_⟩
    have e4 : Same H0 (upd H4 p (.ins C dx (fl3 tn ts tr))) := same_mut ((e2.trans s3).trans s4) np
    -- lamps
    refine ⟨_, rfl, al, xl0, rfl, seq_rows (Same.sq e4 gl) (rl0.mono e4) (by rw [List.length_map]; exact few.l) (fun _ => rfl) (fun t G r Q' _ h q' => ⟨_, rfl, tup_any h q'⟩) fun D2 H5 yl s5 hD2 rl => ?_⟩
    refine tup_any (.inl (sq hD2)) fun tl H6 s6 htl => ?_
    refine ⟨_, rfl, p, C, dx, _, rfl, s6 _ _ (s5 _ _ upd_same), T.cl, T.nL, by have := fl_len5 tn ts tr p p; exact Nat.lt_of_le_of_lt this.2.2.1 (by decide), ?_⟩
    have e6 : Same H0 (upd H6 p (.ins C dx (fl4 tn ts tr tl))) := same_mut ((e4.trans s5).trans s6) np
    -- contacts
    refine ⟨_, rfl, ac, xc0, rfl, seq_rows (Same.sq e6 gc) (rc0.mono e6) (by rw [List.length_map]; exact few.c) (fun _ => rfl) (fun t G r Q' _ h q' => ⟨_, rfl, tup_any h q'⟩) fun D3 H7 yc s7 hD3 rc => ?_⟩
    refine tup_any (.inl (sq hD3)) fun tc H8 s8 htc => ?_
    refine ⟨_, rfl, p, C, dx, _, rfl, s8 _ _ (s7 _ _ upd_same), T.cl, T.nC, by have := fl_len5 tn ts tr tl p; exact Nat.lt_of_le_of_lt this.2.1 (by decide), ?_⟩
    have e8 : Same H0 (upd H8 p (.ins C dx (fl5 tn ts tr tl tc))) := same_mut ((e6.trans s7).trans s8) np
    -- what stands
    have k8 : KeepP p H8 (upd H8 p (.ins C dx (fl5 tn ts tr tl tc))) := KeepP.upd
    have k6 : KeepP p H6 (upd H8 p (.ins C dx (fl5 tn ts tr tl tc))) := ((KeepP.upd.trans (.of s7)).trans (.of s8)).trans k8
    have k4 : KeepP p H4 (upd H8 p (.ins C dx (fl5 tn ts tr tl tc))) := ((KeepP.upd.trans (.of s5)).trans (.of s6)).trans k6
    have k2 : KeepP p H2 (upd H8 p (.ins C dx (fl5 tn ts tr tl tc))) := ((KeepP.upd.trans (.of s3)).trans (.of s4)).trans k4
    have k1 : KeepP p H1 (upd H8 p (.ins C dx (fl5 tn ts tr tl tc))) := (KeepP.upd.trans (.of s2)).trans k2
    have p4 : H4 p = some (.ins C dx (fl2 tn ts)) := s4 _ _ (s3 _ _ upd_same)
    have p6 : H6 p = some (.ins C dx (fl3 tn ts tr)) := s6 _ _ (s5 _ _ upd_same)
    have p8 : H8 p = some (.ins C dx (fl4 tn ts tr tl)) := s8 _ _ (s7 _ _ upd_same)
    have f5 : Fl K (upd H8 p (.ins C dx (fl5 tn ts tr tl tc))) (fl5 tn ts tr tl tc) b tn ts tr tl tc yr yl yc :=
      ⟨fl5_nodes .., fl5_switches .., fl5_relays .., fl5_lamps .., fl5_contacts .., k1.sqt (s1 _ _ hp) hn, k2.sqt (s2 _ _ upd_same) hs, k4.sqt p4 htr, k6.sqt p6 htl, k8.sqt p8 htc, k4.rows p4 (rr.mono s4), k6.rows p6 (rl.mono s6), k8.rows p8 (rc.mono s8)⟩
    -- _check_spans
    refine ⟨_, rfl, p, dx, _, rfl, upd_same, fl5_only _ _ _ _ _ _ (by decide +kernel), p, dx, _, b, tn, ts, tr, tl, tc, yr, yl, yc, rfl, upd_same, f5, few, ok.spR, ok.spL, fun H9 s9 => ?_⟩
    have f9 := f5.mono s9
    have hp9 := s9 _ _ (upd_same (H := H8) (a := p) (o := .ins C dx (fl5 tn ts tr tl tc)))
    -- _movers
    refine ⟨_, rfl, p, C, dx, _, _, rfl, hp9, T.cl, T.nS, f9.ls, _, rfl, p, C, dx, _, _, rfl, hp9, T.cl, T.nR, f9.lr, tr, rfl, ⟨_, f9.hr⟩, fun D4 hD4 => ?_⟩
    have lr := f9.rr.len
    rw [List.length_map] at lr
    refine lc_tup (K := K) (a := tr) (xs := yr) (fun i G => Same H9 G ∧ G D4 = some (.lst (((b.relays.map (·.nm)).take i).map V.str)))
      ⟨same_upd hD4, upd_same⟩ (fun i G _ h => Same.sqt h.1 f9.hr) ?_ ?_
    · rintro i v G hi ⟨sm, hd⟩
      obtain ⟨tt, rw_, rfl, hrow, hri⟩ := f9.rr.at hi
      rw [List.getElem?_map] at hri
      obtain ⟨r, hr1, rfl⟩ := Option.map_eq_some_iff.mp hri
      refine ⟨tt, _, rfl, Same.sqt sm hrow, rfl, _, _, rfl, _, _, rfl, _, _, rfl, rfl, rfl, ?_⟩
      refine yesT ?_
      refine ⟨_, rfl, _, hd, ?_, same_mut sm hD4, ?_⟩
      · rw [List.length_map, List.length_take]
        have := few.r
        exact szlt (by rw [List.length_map]; omega)
      · rw [upd_same, ← map_snoc, List.take_add_one, List.getElem?_map, hr1]
        rfl
    · rintro H10 ⟨sm, hd⟩
      rw [lr, ← List.length_map (f := fun r : Sp3 => r.nm), List.take_length] at hd
      refine tup_any (.inl (sq hd)) fun t2 H11 s11 ht2 => ?_
      have s9b := sm.trans s11
      refine cat_any (Same.sqt s9b f9.hs) ht2 (by rw [List.length_map, List.length_map, List.length_map]; have := few.s; have := few.r; omega) fun tm H12 s12 htm => ?_
      have s9c := s9b.trans s12
      rw [← List.map_append] at htm
      refine ⟨_, rfl, p, C, dx, _, rfl, s9c _ _ hp9, T.cl, T.nM, by have := fl_len5 tn ts tr tl tc; exact Nat.lt_of_le_of_lt this.1 (by decide), ?_⟩
      have kf : KeepP p H12 (upd H12 p (.ins C dx (fl6 tn ts tr tl tc tm))) := KeepP.upd
      have p12 := s9c _ _ hp9
      have f12 := f9.mono s9c
      have e12 : Same H0 (upd H12 p (.ins C dx (fl6 tn ts tr tl tc tm))) := same_mut ((e8.trans s9).trans s9c) np
      have f13 : Fl K (upd H12 p (.ins C dx (fl6 tn ts tr tl tc tm))) (fl6 tn ts tr tl tc tm) b tn ts tr tl tc yr yl yc :=
        ⟨by rw [fl6_old _ _ _ _ _ _ (by decide +kernel)]; exact fl5_nodes .., by rw [fl6_old _ _ _ _ _ _ (by decide +kernel)]; exact fl5_switches .., by rw [fl6_old _ _ _ _ _ _ (by decide +kernel)]; exact fl5_relays .., by rw [fl6_old _ _ _ _ _ _ (by decide +kernel)]; exact fl5_lamps ..,
          by rw [fl6_old _ _ _ _ _ _ (by decide +kernel)]; exact fl5_contacts .., kf.sqt p12 f12.hn, kf.sqt p12 f12.hs, kf.sqt p12 f12.hr, kf.sqt p12 f12.hl, kf.sqt p12 f12.hc, kf.rows p12 f12.rr, kf.rows p12 f12.rl, kf.rows p12 f12.rc⟩
      have lm : (fl6 tn ts tr tl tc tm).lookup ("_movers" : Str) = some (.ref tm) := by rw [fl6_at, if_pos rfl]
      have hm : SqT K (upd H12 p (.ins C dx (fl6 tn ts tr tl tc tm))) tm (b.movers.map V.str) := kf.sqt p12 htm
      -- _check_names, _check_contacts
      refine ⟨_, rfl, p, dx, _, rfl, upd_same, fl6_only _ _ _ _ _ _ _ (by decide +kernel), p, dx, _, b, tn, ts, tr, tl, tc, tm, yr, yl, yc, rfl, upd_same, f13, lm, hm, few, ok, fun H14 s14 => ?_⟩
      have hp14 := s14 _ _ (upd_same (H := H12) (a := p) (o := .ins C dx (fl6 tn ts tr tl tc tm)))
      have f14 := f13.mono s14
      refine ⟨_, rfl, p, dx, _, rfl, hp14, fl6_only _ _ _ _ _ _ _ (by decide +kernel), p, dx, _, b, tn, ts, tr, tl, tc, tm, yr, yl, yc, rfl, hp14, f14, lm, Same.sqt s14 hm, ok.ct, ok.cts, fun H15 s15 => ?_⟩
      exact q H15 ((e12.trans s14).trans s15) ⟨dx, _, tn, ts, tr, tl, tc, tm, yr, yl, yc, s15 _ _ hp14, f14.mono s15, lm, Same.sqt (s14.trans s15) hm, fl6_only _ _ _ _ _ _⟩
/-! ### _law_row -/
def spRow : Sp := fun vs H Q _ => ∃ (c : Int) (m : Nat), vs = [.int c, .int m] ∧ m ≤ 100000 ∧ ∀ H' p (ns : List Int), Same H H' → H p = none → H' p = some (.lst (ns.map V.int)) → ns.length = m → Nums ns → Q (.ref p) H'
theorem scRow : FnScope ["cell", "many", "row", "rest", "k", "mixed"] ["cell", "many"] (defScope sLawRow) := ⟨rfl, rfl, rfl, by decide +kernel, rfl, by decide +kernel, by decide +kernel⟩
theorem ok_row {f : Addr} {fd : FuncData} {k : Nat} (F : Fun K "_law_row" "_law_row" sLawRow f fd) (ma : mg "abs" = none) (mr : mg "range" = none) : FnOk P w K mg base CX0 (k + 1) f fd ["cell", "many"] spRow := by
  refine F.ok scRow (fun vs H Q E h => ?_) (fun cdv A outer s H vs Q E hr h => ?_)
  · obtain ⟨c, m, rfl, _⟩ := h
    rfl
  · obtain ⟨c, m, rfl, hm, q⟩ := h
    refine ⟨_, pss_cons (ps_set (i := 2) scRow.nd rfl (.inl rfl) (pe_lst pa_nil))
      (pss_cons (ps_set (i := 3) scRow.nd rfl (.inl rfl) (pe_callB call_abs (by rfl) ma (by decide +kernel) (pa_cons (pv 0) pa_nil)))
      (pss_cons (ps_for PassesOwn.never rfl (pi_range1 rfl mr (pa_cons (pv 1) pa_nil)) (pg_name (i := 4) scRow.nd rfl (.inl rfl))
        (pss_one (ps_if (pt_cmpR op_ge (pe_callB call_abs (by rfl) ma (by decide +kernel) (pa_cons (pv 0) pa_nil)) (pe_op op_pow pe_int pe_int) (nomark _))
          (pss_cons (ps_expr (pe_bm PySem.F.plainAttrs_list PySem.F.slot_list_append PySem.F.type_list_append mt_append (pv 2) (pa_cons (pe_op op_mod (pv 3) pe_int) pa_nil)))
          (pss_one (ps_set (i := 3) scRow.nd rfl (.inl rfl) (pe_op op_fdiv (pv 3) pe_int))))
          (pss_cons (ps_set (i := 5) scRow.nd rfl (.inl rfl) (pe_op op_mod (pe_op op_add (pe_op op_mul (pv 3) pe_int) (pe_op op_mul (pe_op op_add (pv 4) pe_int) pe_int)) pe_int))
          (pss_cons (ps_set (i := 5) scRow.nd rfl (.inl rfl) (pe_op op_mod (pe_op op_add (pe_op op_mul (pv 5) pe_int) (pe_op op_mul pe_int (pe_op op_add (pv 4) pe_int))) pe_int))
          (pss_one (ps_expr (pe_bm PySem.F.plainAttrs_list PySem.F.slot_list_append PySem.F.type_list_append mt_append (pv 2) (pa_cons (pe_op op_mod (pv 5) pe_int) pa_nil)))))))))
      (pss_one (ps_ret (pv 2))))), ?_⟩
    have e18 : (10 : Int) ^ (18 : Int).toNat = 1000000000000000000 := by decide +kernel
    refine ⟨Nat.zero_le _, fun o no => ?_⟩
    have s1 : Same H (upd H o (.lst [])) := same_upd no
    refine ⟨_, rfl, _, rfl, ?_⟩
    generalize hb : (if c < 0 then -c else c) = ab
    have hb0 : 0 ≤ ab := by
      rw [← hb]
      split <;> omega
    refine ⟨_, rfl, (m : Int), rfl, by omega, by omega, ?_⟩
    refine for_range (lo := 0) (n := (m : Int).toNat) (fun i σ H2 => ∃ (r : Int) (ns : List Int) (z4 z5 : Option V), σ = [some (.int c), some (.int m), some (.ref o), some (.int r), z4, z5] ∧ Same H H2 ∧ H2 o = some (.lst (ns.map V.int)) ∧ ns.length = i ∧ Nums ns ∧ 0 ≤ r ∧ (ab < 1000000000000000000 → r < 1000000000000000000))
      ⟨ab, [], none, none, rfl, s1, upd_same, rfl, (fun n hn => by cases hn), hb0, fun h => h⟩ ?_ ?_
    · rintro i σ H2 hi ⟨r, ns, z4, z5, rfl, sm, ho, hl, hn, hr0, hr1⟩
      refine ⟨_, rfl, _, rfl, ?_⟩
      rw [hb]
      refine ⟨_, _, rfl, rfl, ⟨by decide, by decide, by decide⟩, _, _, rfl, rfl, _, rfl, ?_⟩
      rw [e18]
      refine ite2 (fun hbig => ?_) (fun hsm => ?_)
      · refine ⟨.ref o, rfl, .inl ⟨rfl, _, sq ho⟩, _, rfl, _, _, rfl, rfl, (by show (0 : Int) < 1009; decide), o, _, _, rfl, rfl, ho, ?_, ?_⟩
        · rw [List.length_map]
          exact szlt (by omega)
        · have hbig' : (1000000000000000000 : Int) ≤ ab := of_decide_eq_true hbig
          refine ⟨_, rfl, _, _, rfl, rfl, ⟨by decide, by decide⟩, r / 1009, ns ++ [r % 1009], _, _, rfl, same_mut sm no, ?_, ?_, hn.snoc (by omega) (by omega), by omega, fun z => by omega⟩
          · rw [upd_same, map_snoc]
          · rw [List.length_append, hl]
            rfl
      · have hsm' : ab < 1000000000000000000 := by
          have := of_decide_eq_false (Bool.eq_false_iff.mpr hsm)
          omega
        have hr2 := hr1 hsm'
        have b64 : (2 : Int) ^ 64 = 18446744073709551616 := by decide
        refine ⟨_, rfl, _, _, rfl, rfl, .inl ⟨by omega, by omega⟩, _, rfl, _, _, rfl, rfl, _, _, rfl, rfl, .inr ⟨by decide, by decide⟩, _, _, rfl, rfl, _, _, rfl, rfl, (by show (0 : Int) < 2147483647; decide), ?_⟩
        refine ⟨_, rfl, _, _, rfl, rfl, .inr ⟨by decide, by decide⟩, _, rfl, _, _, rfl, rfl, _, _, rfl, rfl, .inl ⟨by decide, by decide⟩, _, _, rfl, rfl, _, _, rfl, rfl, (by show (0 : Int) < 2147483629; decide), ?_⟩
        refine ⟨.ref o, rfl, .inl ⟨rfl, _, sq ho⟩, _, rfl, _, _, rfl, rfl, (by show (0 : Int) < 1009; decide), o, _, _, rfl, rfl, ho, ?_, ?_⟩
        · rw [List.length_map]
          exact szlt (by omega)
        · refine ⟨r, ns ++ [(((r * 48271 + (0 + (i : Int) + 1) * 69621) % 2147483647 * 16807 + 271 * (0 + (i : Int) + 3)) % 2147483629) % 1009], _, _, rfl, same_mut sm no, ?_, ?_, hn.snoc (Int.emod_nonneg _ (by decide)) (Int.emod_lt_of_pos _ (by decide)), hr0, hr1⟩
          · rw [upd_same, map_snoc]
          · rw [List.length_append, hl]
            rfl
    · rintro σ H2 ⟨r, ns, z4, z5, rfl, sm, ho, hl, hn, hr0, hr1⟩
      exact ⟨.ref o, rfl, q H2 o ns sm no ho (by omega) hn⟩
/-! ### _law_numbers -/
def spNumbers (K : PySem.W.Frag) : Sp := fun vs H Q _ => ∃ (a : Addr) (cs : List Int) (m : Nat), vs = [.ref a, .int m] ∧ SqL K H a (cs.map V.int) ∧ cs.length ≤ 63 ∧ m ≤ 5000 ∧
  ∀ H' p (ns : List Int), Same H H' → H p = none → H' p = some (.lst (ns.map V.int)) → ns.length = m → Nums ns → Q (.ref p) H'
theorem scNumbers : FnScope ["script", "many", "cells", "each", "numbers", "cell", "number"] ["script", "many"] (defScope sLawNumbers) := ⟨rfl, rfl, rfl, by decide +kernel, rfl, by decide +kernel, by decide +kernel⟩
theorem ok_numbers {f fR : Addr} {fd fdR : FuncData} {k : Nat} (F : Fun K "_law_numbers" "_law_numbers" sLawNumbers f fd) (kR : PySem.W.keepIn K (.ref fR) = true) (bR : Binds K fdR ["cell", "many"] []) (gR : mg "_law_row" = some (.ref fR))
    (GR : FnOk P w K mg base CX0 (k + 1) fR fdR ["cell", "many"] spRow) (mx : mg "max" = none) (ml : mg "len" = none) : FnOk P w K mg base CX0 (k + 2) f fd ["script", "many"] (spNumbers K) := by
  refine F.ok scNumbers (fun vs H Q E h => ?_) (fun cdv A outer s H vs Q E hr h => ?_)
  · obtain ⟨a, cs, m, rfl, _⟩ := h
    rfl
  · obtain ⟨a, cs, m, rfl, hS, hlen, hm, q⟩ := h
    refine ⟨_, pss_cons (ps_set (i := 2) scNumbers.nd rfl (.inl rfl) (pe_slice sl_list (pv 0) po_none (po_some pe_int)))
      (pss_cons (ps_set (i := 3) scNumbers.nd rfl (.inl rfl) (pe_op op_add pe_int (pe_op op_fdiv (pv 1) (pe_callB (call_max2 rfl) (by rfl) mx (by decide +kernel) (pa_cons pe_int (pa_cons (pe_callB call_len_seq (by rfl) ml PySem.boot_len (pa_cons (pv 2) pa_nil)) pa_nil))))))
      (pss_cons (ps_set (i := 4) scNumbers.nd rfl (.inl rfl) (pe_lst pa_nil))
      (pss_cons (ps_for PassesOwn.never rfl (pi_list (pv 2)) (pg_name (i := 5) scNumbers.nd rfl (.inl rfl))
        (pss_one (ps_for PassesOwn.never rfl (pi_list (pe_call GR hr (by rfl) gR kR bR .nil pass0 (pa_cons (pv 5) (pa_cons (pv 3) pa_nil)))) (pg_name (i := 6) scNumbers.nd rfl (.inl rfl))
          (pss_one (ps_expr (pe_bm PySem.F.plainAttrs_list PySem.F.slot_list_append PySem.F.type_list_append mt_append (pv 4) (pa_cons (pv 6) pa_nil)))))))
      (pss_cons (ps_while PassesOwn.never (pt_cmpR op_lt (pe_callB call_len_seq (by rfl) ml PySem.boot_len (pa_cons (pv 4) pa_nil)) (pv 1) (nomark _))
          (pss_one (ps_expr (pe_bm PySem.F.plainAttrs_list PySem.F.slot_list_append PySem.F.type_list_append mt_append (pv 4) (pa_cons pe_int pa_nil)))))
      (pss_one (ps_ret (pe_slice sl_list (pv 4) po_none (po_some (pv 1))))))))), ?_⟩
    -- cells = script[:63]
    refine ⟨_, rfl, 63, rfl, a, _, rfl, hS, fun c nc => ?_⟩
    rw [show ((63 : Int)) = ((63 : Nat) : Int) from rfl, cut_list, List.take_of_length_le (by rw [List.length_map]; exact hlen)]
    have s1 : Same H (upd H c (.lst (cs.map V.int))) := same_upd nc
    -- each = 1 + many // max(1, len(cells))
    refine ⟨_, rfl, _, rfl, c, _, rfl, .inl (sq upd_same), _, _, rfl, ?_⟩
    generalize hd : (if ((cs.map V.int).length : Int) > 1 then ((cs.map V.int).length : Int) else 1) = dv
    have hd1 : 1 ≤ dv ∧ dv ≤ 63 := by
      rw [List.length_map] at hd
      rw [← hd]
      split <;> omega
    refine ⟨_, _, rfl, rfl, ⟨by omega, by omega⟩, _, _, rfl, rfl, ?_⟩
    have he : ∃ e : Nat, (1 + (m : Int) / dv) = (e : Int) ∧ e ≤ 5001 := by
      have h0 : 0 ≤ (m : Int) / dv := Int.ediv_nonneg (by omega) (by omega)
      have h1 : (m : Int) / dv ≤ m := Int.ediv_le_self _ (by omega)
      exact ⟨(1 + (m : Int) / dv).toNat, by omega, by omega⟩
    obtain ⟨e, ee, he⟩ := he
    -- numbers = []
    refine ⟨Nat.zero_le _, fun o no => ?_⟩
    have nco : c ≠ o := ne_of_none upd_same no
    have no' : H o = none := s1.free no
    refine ⟨.ref c, rfl, c, rfl, ⟨_, sq (by rw [upd_ne nco]; exact upd_same)⟩, for_list (K := K) (a := c) (xs := cs.map V.int) (fun i σ H2 => ∃ (ns : List Int) (z5 z6 : Option V), σ = [some (.ref a), some (.int m), some (.ref c), some (.int (1 + (m : Int) / dv)), some (.ref o), z5, z6] ∧ Same H H2 ∧ H2 c = some (.lst (cs.map V.int)) ∧ H2 o = some (.lst (ns.map V.int)) ∧ ns.length = i * e ∧ Nums ns)
      ⟨[], none, none, rfl, same_mut s1 no', by rw [upd_ne nco]; exact upd_same, upd_same, by rw [Nat.zero_mul]; rfl, fun n hn => by cases hn⟩ (fun i σ H2 _ ⟨_, _, _, _, _, hc, _⟩ => sq hc) ?_ ?_⟩
    · rintro i y σ H2 hi ⟨ns, z5, z6, rfl, sm, hc, ho, hl, hn⟩
      have hil : i < (cs.map V.int).length := (List.getElem?_eq_some_iff.mp hi).1
      rw [List.length_map] at hil
      obtain ⟨z, rfl⟩ : ∃ z, y = V.int z := by
        rw [List.getElem?_map, List.getElem?_eq_getElem hil] at hi
        exact ⟨_, (Option.some.inj hi).symm⟩
      have hie : i * e ≤ 63 * 5001 := Nat.mul_le_mul (by omega) he
      refine ⟨_, rfl, _, rfl, z, e, congrArg (fun t => [V.int z, V.int t]) ee, by omega, fun H3 r rs s3 nr hr3 hrl hrn => ?_⟩
      have hc3 := s3 _ _ hc
      have ho3 := s3 _ _ ho
      have nro : r ≠ o := fun z => by
        rw [z, ho] at nr
        cases nr
      refine ⟨r, rfl, ⟨_, sq hr3⟩, for_list (K := K) (a := r) (xs := rs.map V.int) (fun j σ H4 => ∃ (z6 : Option V), σ = [some (.ref a), some (.int m), some (.ref c), some (.int (1 + (m : Int) / dv)), some (.ref o), some (.int z), z6] ∧ Same H H4 ∧ H4 c = some (.lst (cs.map V.int)) ∧ H4 r = some (.lst (rs.map V.int)) ∧ H4 o = some (.lst ((ns ++ rs.take j).map V.int)))
        ⟨z6, rfl, sm.trans s3, hc3, hr3, by rw [List.take_zero, List.append_nil]; exact ho3⟩ (fun j σ H4 _ ⟨_, _, _, _, h4, _⟩ => sq h4) ?_ ?_⟩
      · rintro j y σ H4 hj ⟨w6, rfl, s4, hc4, hr4, ho4⟩
        have hjl : j < (rs.map V.int).length := (List.getElem?_eq_some_iff.mp hj).1
        rw [List.length_map] at hjl
        obtain ⟨n, hnj, rfl⟩ : ∃ n, rs[j]? = some n ∧ y = V.int n := by
          rw [List.getElem?_map, List.getElem?_eq_getElem hjl] at hj
          exact ⟨_, List.getElem?_eq_getElem hjl, (Option.some.inj hj).symm⟩
        refine ⟨.ref o, rfl, .inl ⟨rfl, _, sq ho4⟩, _, rfl, o, _, _, rfl, rfl, ho4, ?_, ?_⟩
        · rw [List.length_map, List.length_append, List.length_take]
          exact szlt (by omega)
        · refine ⟨_, rfl, same_mut s4 no', by rw [upd_ne nco]; exact hc4, by rw [upd_ne nro]; exact hr4, ?_⟩
          rw [upd_same, ← map_snoc, List.append_assoc, List.take_add_one, hnj]
          rfl
      · rintro σ H4 ⟨w6, rfl, s4, hc4, hr4, ho4⟩
        rw [List.length_map, List.take_length] at ho4
        refine ⟨ns ++ rs, _, _, rfl, s4, hc4, ho4, ?_, fun n hn2 => ?_⟩
        · rw [List.length_append, hl, hrl, Nat.succ_mul]
        · rcases List.mem_append.mp hn2 with h | h
          · exact hn n h
          · exact hrn n h
    · rintro σ H2 ⟨ns, z5, z6, rfl, sm, hc, ho, hl, hn⟩
      rw [List.length_map] at hl
      have hle : ns.length ≤ 63 * 5001 := by
        rw [hl]
        exact Nat.mul_le_mul hlen he
      -- while len(numbers) < many
      refine while_by (fun σ H3 => ∃ ns' : List Int, σ = [some (.ref a), some (.int m), some (.ref c), some (.int (1 + (m : Int) / dv)), some (.ref o), z5, z6] ∧ Same H H3 ∧ H3 o = some (.lst (ns'.map V.int)) ∧ ns'.length ≤ 400000 ∧ Nums ns')
        (fun σ H3 => match H3 o with | some (.lst xs) => m - xs.length | _ => 0) ⟨ns, rfl, sm, ho, by omega, hn⟩ ?_ ?_
      · rintro σ H3 ⟨ns', rfl, s3, ho3, hl3, hn3⟩
        refine ⟨.ref o, rfl, o, _, rfl, .inl (sq ho3), _, rfl, _, _, rfl, rfl, _, rfl, ?_⟩
        rw [List.length_map]
        refine ite2 (fun hlt => ?_) (fun hge => ?_)
        · have hlt' : (ns'.length : Int) < m := of_decide_eq_true hlt
          refine ⟨.ref o, rfl, .inl ⟨rfl, _, sq ho3⟩, o, _, _, rfl, rfl, ho3, by rw [List.length_map]; exact szlt (by omega), ?_⟩
          refine ⟨⟨ns' ++ [0], rfl, same_mut s3 no', by rw [upd_same, map_snoc], by rw [List.length_append]; show ns'.length + 1 ≤ 400000; omega, hn3.snoc (by decide) (by decide)⟩, ?_⟩
          rw [upd_same, ho3]
          show m - (ns'.map V.int ++ [V.int 0]).length < m - (ns'.map V.int).length
          rw [List.length_append, List.length_map]
          show m - (ns'.length + 1) < m - ns'.length
          omega
        · have hge' : ¬ (ns'.length : Int) < m := of_decide_eq_false (Bool.eq_false_iff.mpr hge)
          refine ⟨_, rfl, _, rfl, (m : Int), rfl, o, _, rfl, sq ho3, fun p np => ?_⟩
          rw [cut_list, ← List.map_take]
          refine q _ p (ns'.take m) (same_mut s3 (s3.free np)) (s3.free np) upd_same (by rw [List.length_take]; omega) fun n h => hn3 n (List.mem_of_mem_take h)
      · rintro σ H Q Q' hq ⟨v, hv, p, ys, e0, hs, v1, hv1, i, j, e1, e2, k, e3, r⟩
        exact ⟨v, hv, p, ys, e0, hs, v1, hv1, i, j, e1, e2, k, e3, hq _ _ r⟩
/-! ### check_faces, which may raise -/
theorem exm_self {K : PySem.W.Frag} {S : Addr} (h1 : PySem.W.subIn K (.ref S) (.type "BaseException") = some true) (h2 : PySem.W.isClsIn K S = true) (h3 : PySem.W.typeIn K (.ref S) = some (.type "type")) (h4 : PySem.W.subIn K (.ref S) (.ref S) = some true) :
    PySem.W.exmOne K (.ref S) (.ref S) = some true := by
  have e1 : (PySem.W.subIn K (.ref S) (.type "BaseException") == some true) = true := by rw [h1] <;> rfl
  have e2 : ((PySem.W.clsIn K S).isSome && PySem.W.typeIn K (.ref S) == some (.type "type")) = true := by
    have h2' : (PySem.W.clsIn K S).isSome = true := h2
    rw [h2', h3] <;> rfl
  show (if (PySem.W.subIn K (.ref S) (.type "BaseException") == some true) = true then (if ((PySem.W.clsIn K S).isSome && PySem.W.typeIn K (.ref S) == some (.type "type")) = true then PySem.W.subIn K (.ref S) (.ref S) else none) else none) = some true
  rw [if_pos e1, if_pos e2]
  exact h4
/-- what the text says of an error class of its own at D, and that an error of it is one of L and none of I -/
structure ErrC (K : PySem.W.Frag) (D : Addr) : Prop where
  x : PySem.W.excIn K D [.type "ValueError", .type "Exception", .type "BaseException", .type "object"] "ValueError.__new__" = true
  k : PySem.W.keepIn K (.ref D) = true
  b : PySem.W.subIn K (.ref D) (.type "BaseException") = some true
  t : PySem.W.typeIn K (.ref D) = some (.type "type")
  e : PySem.W.exmOne K (.ref D) (.ref D) = some true
/-! ### boards that may be refused: _check_spans -/
structure TextR (b : Bd) : Prop where
  t : ∀ r ∈ b.relays ++ b.lamps, ∀ y ∈ [r.nm, r.one, r.oth], y.length ≤ 20 ∧ ∀ c ∈ y.cps.toList, c < 16 ^ 8
def SpansOk (b : Bd) : Prop := ∀ r ∈ b.relays ++ b.lamps, spanB b.nodes r = true
def spSpansX (K : PySem.W.Frag) (C IB : Addr) : Sp := fun vs H Q E => ∃ (p dx : Addr) (fs : List (Str × V)) (b : Bd) (tn ts tr tl tc : Addr) (xr xl xc : List V), vs = [.ref p] ∧ H p = some (.ins C dx fs) ∧ Fl K H fs b tn ts tr tl tc xr xl xc ∧ Few b ∧ TextR b ∧
  (SpansOk b → ∀ H', Same H H' → Q .non H') ∧ (¬ SpansOk b → ∀ H', Same H H' → E (.ref IB) none H')
theorem scSpans2 : FnScope ["self", "part"] ["self"] (defScope sBoardCheckSpans) := ⟨rfl, rfl, rfl, by decide +kernel, rfl, by decide +kernel, by decide +kernel⟩
theorem fmt3 {a b c : Str} (h : ∀ y ∈ [a, b, c], y.length ≤ 20) : fmtCost [a, b, c] + 7 ≤ 1000 := by
  have h1 := h a (by simp)
  have h2 := h b (by simp)
  have h3 := h c (by simp)
  rw [fmtCost_cons, fmtCost_cons, fmtCost_cons]
  show _ + (_ + (_ + 0)) + 7 ≤ 1000
  omega
theorem ok_spansX {f fS C IB sp sg : Addr} {mc : Value} {fd fdS fdI : FuncData} {k : Nat} (F : Fun K "_check_spans" "Board._check_spans" sBoardCheckSpans f fd) (T : BTxt K mg C mc sp sg) (XD : ErrC K IB) (gD : mg "InvalidBoard" = some (.ref IB))
    (FS : Fun K "is_span" "is_span" sIsSpan fS fdS) (bS : Binds K fdS ["part", "nodes"] []) (gS : mg "is_span" = some (.ref fS)) (FI : Fun K "is_good_name" "is_good_name" sIsGoodName sg fdI) (bI : Binds K fdI ["text"] []) :
    FnOk P w K mg base (L2.CX P w) (k + 3) f fd ["self"] (spSpansX K C IB) := by
  have GS : FnOk P w K mg base CX0 (k + 2) fS fdS ["part", "nodes"] (spIsSpan K) := ok_isSpan FS T FI bI
  refine F.okX scSpans2 (fun vs H Q E h => ?_) (fun cdv A outer s H vs Q E hr h => ?_)
  · obtain ⟨p, _, _, _, _, _, _, _, _, _, _, _, rfl, _⟩ := h
    rfl
  · obtain ⟨p, dx, fs, b, tn, ts, tr, tl, tc, xr, xl, xc, rfl, hp, f, few, txr, q1, q2⟩ := h
    refine ⟨_, pss_one (ps_for (passes_of rfl) rfl (pi_tup (pe_op op_catA (pe_fld (pv 0) rfl) (pe_fld (pv 0) rfl))) (pg_name (i := 1) scSpans2.nd rfl (.inl rfl))
      (pss_one (ps_if (pt_not (pt_val (pe_call GS hr (by rfl) gS FS.kp bS .nil pass0 (pa_cons (pv 1) (pa_cons (pe_fld (pv 0) rfl) pa_nil)))))
        (pss_one (ps_raise rfl (takes_of rfl rfl rfl rfl) (SkE.pmk_own1 PySem.F.excBase_ValueError XD.x gD XD.k (raises_own XD.b XD.t) (by rfl) (pe_joined (.cons pe_str (.cons (pe_fmtT hr (pv 1)) .nil)))))) pss_nil))), ?_⟩
    refine ⟨_, rfl, p, C, dx, _, _, rfl, hp, T.cl, T.nR, f.lr, _, rfl, p, C, dx, _, _, rfl, hp, T.cl, T.nL, f.ll, ?_⟩
    have lr := f.rr.len
    have ll := f.rl.len
    rw [List.length_map] at lr ll
    refine cat_any f.hr f.hl (by have := few.r; have := few.l; omega) fun t H1 s1 ht => ?_
    have rows : Rows K H1 (xr ++ xl) ((b.relays ++ b.lamps).map Sp3.row) := by
      rw [List.map_append]
      exact (f.rr.mono s1).app (f.rl.mono s1)
    have lrow := rows.len
    rw [List.length_map] at lrow
    refine ⟨t, rfl, ⟨_, ht⟩, for_tup (K := K) (a := t) (xs := xr ++ xl) (fun i σ H2 => ∃ z1 : Option V, σ = [some (.ref p), z1] ∧ Same H1 H2 ∧ ∀ r ∈ (b.relays ++ b.lamps).take i, spanB b.nodes r = true) ⟨none, rfl, Same.refl _, fun r hr => by rw [List.take_zero] at hr; cases hr⟩ (fun _ _ _ _ ⟨_, _, sm, _⟩ => Same.sqt sm ht) ?_ ?_⟩
    · rintro i v σ H2 hi ⟨z1, rfl, sm, hall⟩
      obtain ⟨tt, rw_, rfl, hrow, hri⟩ := rows.at hi
      rw [List.getElem?_map] at hri
      obtain ⟨r, hr1, rfl⟩ := Option.map_eq_some_iff.mp hri
      have hm := List.mem_of_getElem? hr1
      have htx := txr.t r hm
      have h20 : r.nm.length ≤ 20 := (htx r.nm (by simp)).1
      refine ⟨_, rfl, _, rfl, p, C, dx, _, _, rfl, sm _ _ (s1 _ _ hp), T.cl, T.nN, f.ln, tt, tn, r, b.nodes, rfl, Same.sqt sm hrow, .inr (Same.sqt (s1.trans sm) f.hn), by omega, fun H3 s3 => ⟨_, rfl, ?_⟩⟩
      cases e : spanB b.nodes r with
      | true =>
        refine iteF ?_
        refine ⟨_, rfl, sm.trans s3, fun r' hr' => ?_⟩
        rw [List.take_add_one, hr1] at hr'
        rcases List.mem_append.mp hr' with h | h
        · exact hall r' h
        · have e2 : r' = r := by simpa using h
          rw [e2]
          exact e
      | false =>
        refine iteT ?_
        have hc := fmt3 fun y hy => (htx y hy).1
        have hc' : fmtCost [r.nm, r.one, r.oth] + 7 ≤ sizeLine := szl (by omega)
        refine ⟨_, rfl, by decide +kernel, _, rfl, tt, [r.nm, r.one, r.oth], rfl, Same.sqt (sm.trans s3) hrow, fun y hy => (htx y hy).2, hc', fun m hm2 => ⟨_, rfl, szl ?_, ?_⟩⟩
        · rw [app_len, app_len]
          have e3 : ("not a relay or a lamp of this board: " : Str).length ≤ 100 := by decide +kernel
          have e4 : (Str.empty : Str).length = 0 := rfl
          omega
        · exact q2 (fun hs => by rw [hs r hm] at e; cases e) H3 ((s1.trans sm).trans s3)
    · rintro σ H2 ⟨z1, rfl, sm, hall⟩
      refine q1 (fun r hr => hall r ?_) H2 (s1.trans sm)
      rw [lrow, List.take_length]
      exact hr
/-! ### _check_names -/
def NamesOk (b : Bd) : Prop := areNm b.nodes 2 16 = true ∧ b.switches.length ≤ 6 ∧ b.relays.length ≤ 8 ∧ areNm b.movers 0 b.movers.length = true ∧ areNm (b.lamps.map (·.nm)) 1 8 = true
def spChkX (K : PySem.W.Frag) (C IB : Addr) : Sp := fun vs H Q E => ∃ (p dx : Addr) (fs : List (Str × V)) (b : Bd) (tn ts tr tl tc tm : Addr) (xr xl xc : List V), vs = [.ref p] ∧ H p = some (.ins C dx fs) ∧ Fl K H fs b tn ts tr tl tc xr xl xc ∧
  fs.lookup ("_movers" : Str) = some (.ref tm) ∧ SqT K H tm (b.movers.map V.str) ∧ Few b ∧ (NamesOk b → ∀ H', Same H H' → Q .non H') ∧ (¬ NamesOk b → ∀ H', Same H H' → E (.ref IB) none H')
theorem ok_chkX {f fA C IB sp sg : Addr} {mc : Value} {fd fdA fdI : FuncData} {k : Nat} (F : Fun K "_check_names" "Board._check_names" sBoardCheckNames f fd) (T : BTxt K mg C mc sp sg) (XD : ErrC K IB) (gD : mg "InvalidBoard" = some (.ref IB))
    (FA : Fun K "are_names" "are_names" sAreNames fA fdA) (bA : Binds K fdA ["names", "least", "most"] []) (gA : mg "are_names" = some (.ref fA)) (FI : Fun K "is_good_name" "is_good_name" sIsGoodName sg fdI) (bI : Binds K fdI ["text"] []) :
    FnOk P w K mg base (L2.CX P w) (k + 3) f fd ["self"] (spChkX K C IB) := by
  have GA : FnOk P w K mg base CX0 (k + 2) fA fdA ["names", "least", "most"] (spAreNames K) := ok_areNames FA T FI bI (fI := fA)
  obtain ⟨t1, c1⟩ := T.c1
  obtain ⟨t2, c2⟩ := T.c2
  obtain ⟨t3, c3⟩ := T.c3
  obtain ⟨t4, c4⟩ := T.c4
  obtain ⟨u2, g2⟩ := T.g2
  obtain ⟨u3, g3⟩ := T.g3
  refine F.okX scChk (fun vs H Q E h => ?_) (fun cdv A outer s H vs Q E hr h => ?_)
  · obtain ⟨p, _, _, _, _, _, _, _, _, _, _, _, _, rfl, _⟩ := h
    rfl
  · obtain ⟨p, dx, fs, b, tn, ts, tr, tl, tc, tm, xr, xl, xc, rfl, hp, f, lm, hm, few, q, qx⟩ := h
    refine ⟨_, pss_cons (ps_if (pt_not (pt_val (pe_call GA hr (by rfl) gA FA.kp bA .nil pass0 (pa_cons (pe_fld (pv 0) rfl) (pa_cons (pe_glob (v := .int 2) rfl g2 ⟨_, rfl⟩) (pa_cons (ClX.pe_cval (pe_glob (v := .ref C) rfl T.mgB rfl) rfl) pa_nil)))))) (pss_one (ps_raise rfl (takes_of rfl rfl rfl rfl) (pmk_own PySem.F.excBase_ValueError XD.x gD XD.k (raises_own XD.b XD.t) (by exact rfl)))) pss_nil)
      (pss_cons (ps_if (PW.pt (pw_or (pt_cmpR op_gt (pe_callB call_len_seq (by rfl) T.len PySem.boot_len (pa_cons (pe_fld (pv 0) rfl) pa_nil)) (ClX.pe_cval (pe_glob (v := .ref C) rfl T.mgB rfl) rfl) (nomark _))
          (pw_or1 (pt_cmpR op_gt (pe_callB call_len_seq (by rfl) T.len PySem.boot_len (pa_cons (pe_fld (pv 0) rfl) pa_nil)) (ClX.pe_cval (pe_glob (v := .ref C) rfl T.mgB rfl) rfl) (nomark _))))) (pss_one (ps_raise rfl (takes_of rfl rfl rfl rfl) (pmk_own PySem.F.excBase_ValueError XD.x gD XD.k (raises_own XD.b XD.t) (by exact rfl)))) pss_nil)
      (pss_cons (ps_if (pt_not (pt_val (pe_call GA hr (by rfl) gA FA.kp bA .nil pass0 (pa_cons (pe_fld (pv 0) rfl) (pa_cons pe_int (pa_cons (pe_callB call_len_seq (by rfl) T.len PySem.boot_len (pa_cons (pe_fld (pv 0) rfl) pa_nil)) pa_nil)))))) (pss_one (ps_raise rfl (takes_of rfl rfl rfl rfl) (pmk_own PySem.F.excBase_ValueError XD.x gD XD.k (raises_own XD.b XD.t) (by exact rfl)))) pss_nil)
      (pss_cons (ps_setLc (i := 1) (own := [("name", 2), ("_", 3)]) (g := gTup K 3 (gCons (gName 2) (gCons (gName 3) (gCons (gName 3) gNil)))) (tt := tYes) rfl scChk.nd rfl rfl (sw_true rfl rfl rfl (by decide +kernel)) (pi_tup (pe_fld (pv 0) rfl)) (blkOk_by (N := ["self", "lamps", "name", "_"]) (sc := defScope sBoardCheckNames) (by decide +kernel))
          (fun _ _ _ _ _ => pg_tup rfl (pgs_cons (pg_name (i := 2) scChk.nd rfl (Or.inl rfl)) (pgs_cons (pg_name (i := 3) scChk.nd rfl (Or.inl rfl)) (pgs_cons (pg_name (i := 3) scChk.nd rfl (Or.inl rfl)) pgs_nil)))) (fun _ _ _ _ _ => pts_nil) (fun _ _ _ _ _ => pv 2))
      (pss_one (ps_if (pt_not (pt_val (pe_call GA hr (by rfl) gA FA.kp bA .nil pass0 (pa_cons (pv 1) (pa_cons (pe_glob (v := .int 1) rfl g3 ⟨_, rfl⟩) (pa_cons (ClX.pe_cval (pe_glob (v := .ref C) rfl T.mgB rfl) rfl) pa_nil)))))) (pss_one (ps_raise rfl (takes_of rfl rfl rfl rfl) (pmk_own PySem.F.excBase_ValueError XD.x gD XD.k (raises_own XD.b XD.t) (by exact rfl)))) pss_nil))))), ?_⟩
    -- the nodes
    refine ⟨_, rfl, p, C, dx, _, _, rfl, hp, T.cl, T.nN, f.ln, C, mc, .int 16, _, rfl, T.cr, ⟨c1, ⟨_, rfl⟩⟩, tn, b.nodes, 2, 16, rfl, .inr f.hn, few.nz, few.n, fun H1 s1 => ⟨_, rfl, ?_⟩⟩
    cases e1 : areNm b.nodes 2 16 with
    | false =>
      refine iteT ?_
      exact qx (fun h => by rw [h.1] at e1; cases e1) H1 s1
    | true =>
    refine iteF ?_
    -- the counts
    have lr := f.rr.len
    rw [List.length_map] at lr
    refine ⟨_, rfl, p, C, dx, _, _, rfl, s1 _ _ hp, T.cl, T.nS, f.ls, ts, _, rfl, .inr (Same.sqt s1 f.hs), C, mc, .int 6, _, rfl, T.cr, ⟨c2, ⟨_, rfl⟩⟩, _, _, rfl, rfl, _, rfl, ?_⟩
    refine ite2 (fun e => ?_) (fun e => ?_)
    · have e := of_decide_eq_true e
      rw [List.length_map] at e
      exact qx (fun h => by have := h.2.1; omega) H1 s1
    have l6 : b.switches.length ≤ 6 := Nat.le_of_not_lt fun h => e (decide_eq_true (by rw [List.length_map]; omega))
    refine ⟨_, rfl, p, C, dx, _, _, rfl, s1 _ _ hp, T.cl, T.nR, f.lr, tr, _, rfl, .inr (Same.sqt s1 f.hr), C, mc, .int 8, _, rfl, T.cr, ⟨c3, ⟨_, rfl⟩⟩, _, _, rfl, rfl, _, rfl, ?_⟩
    refine ite2 (fun e => ?_) (fun e => ?_)
    · have e := of_decide_eq_true e
      exact qx (fun h => by have := h.2.2.1; omega) H1 s1
    have l8 : b.relays.length ≤ 8 := Nat.le_of_not_lt fun h => e (decide_eq_true (by omega))
    -- the movers
    have ml : b.movers.length ≤ 1000 := by
      unfold Bd.movers
      rw [List.length_append, List.length_map]
      omega
    refine ⟨_, rfl, p, C, dx, _, _, rfl, s1 _ _ hp, T.cl, T.nM, lm, _, rfl, p, C, dx, _, _, rfl, s1 _ _ hp, T.cl, T.nM, lm, tm, _, rfl, .inr (Same.sqt s1 hm), tm, b.movers, 0, b.movers.length, by rw [List.length_map]; rfl, .inr (Same.sqt s1 hm), few.mz, ml, fun H2 s2 => ⟨_, rfl, ?_⟩⟩
    have s12 := s1.trans s2
    cases e2 : areNm b.movers 0 b.movers.length with
    | false =>
      refine iteT ?_
      exact qx (fun h => by rw [h.2.2.2.1] at e2; cases e2) H2 s12
    | true =>
    refine iteF ?_
    -- the lamps
    have ll := f.rl.len
    rw [List.length_map] at ll
    refine ⟨_, rfl, p, C, dx, _, _, rfl, s12 _ _ hp, T.cl, T.nL, f.ll, tl, rfl, ⟨_, Same.sqt s12 f.hl⟩, fun D hD => ?_⟩
    refine lc_tup (K := K) (a := tl) (xs := xl) (fun i H3 => Same H2 H3 ∧ H3 D = some (.lst (((b.lamps.map (·.nm)).take i).map V.str)))
      ⟨same_upd hD, upd_same⟩ (fun i H3 _ h => Same.sqt (s12.trans h.1) f.hl) ?_ ?_
    · rintro i v H3 hi ⟨sm, hd⟩
      have hil := (List.getElem?_eq_some_iff.mp hi).1
      obtain ⟨tt, rw_, rfl, hrow, hri⟩ := f.rl.at hi
      rw [List.getElem?_map] at hri
      obtain ⟨r, hr1, rfl⟩ := Option.map_eq_some_iff.mp hri
      refine ⟨tt, _, rfl, Same.sqt (s12.trans sm) hrow, rfl, _, _, rfl, _, _, rfl, _, _, rfl, rfl, rfl, ?_⟩
      refine yesT ?_
      refine ⟨_, rfl, _, hd, ?_, same_mut sm hD, ?_⟩
      · rw [List.length_map, List.length_take]
        have := few.l
        exact szlt (by rw [List.length_map]; omega)
      · rw [upd_same, ← map_snoc, List.take_add_one, List.getElem?_map, hr1]
        rfl
    · rintro H3 ⟨sm, hd⟩
      rw [ll, ← List.length_map (f := fun r : Sp3 => r.nm), List.take_length] at hd
      refine ⟨_, rfl, C, mc, .int 8, _, rfl, T.cr, ⟨c4, ⟨_, rfl⟩⟩, D, b.lamps.map (·.nm), 1, 8, rfl, .inl (sq hd), fun z hz => ?_, by rw [List.length_map]; exact few.l, fun H4 s4 => ⟨_, rfl, ?_⟩⟩
      · obtain ⟨r, hr1, rfl⟩ := List.mem_map.mp hz
        exact few.lz r hr1
      · cases e3 : areNm (b.lamps.map (·.nm)) 1 8 with
        | false =>
          refine iteT ?_
          exact qx (fun h => by rw [h.2.2.2.2] at e3; cases e3) H4 ((s12.trans sm).trans s4)
        | true =>
          refine iteF ?_
          exact q ⟨e1, l6, l8, e2, e3⟩ H4 ((s12.trans sm).trans s4)
/-! ### Board.__init__ for boards that may be refused, with contacts that may be -/
def spInitX (K : PySem.W.Frag) (C IB : Addr) : Sp := fun vs H Q E => ∃ (p dx : Addr) (H0 : Hp) (an al as ar ac : Addr) (b : Bd), vs = [.ref p, .ref an, .ref al, .ref as, .ref ar, .ref ac] ∧ H p = some (.ins C dx []) ∧ H0 p = none ∧ Same H0 H ∧ Given K H0 b an al as ar ac ∧ Few b ∧ TextR b ∧
  (b.contacts.length ≤ 40 ∧ ∀ c ∈ b.contacts, ctB b.nodes b.movers c = true) ∧ (SpansOk b ∧ NamesOk b → ∀ H', Same H0 H' → BoardAt K C H' p b → Q .non H') ∧ (¬ (SpansOk b ∧ NamesOk b) → ∀ H', Same H0 H' → E (.ref IB) none H')
theorem ok_initX {f fS fN fC fI1 fI2 fI3 C IB sp sg : Addr} {mc : Value} {fd fdS fdN fdC fdI1 fdI2 fdI3 fdI : FuncData} {k : Nat} (F : Fun K "__init__" "Board.__init__" sBoardInit f fd) (T : BTxt K mg C mc sp sg) (M : BMeths K C fS fN fC) (XD : ErrC K IB) (gD : mg "InvalidBoard" = some (.ref IB))
    (FS : Fun K "_check_spans" "Board._check_spans" sBoardCheckSpans fS fdS) (bS : Binds K fdS ["self"] []) (FN : Fun K "_check_names" "Board._check_names" sBoardCheckNames fN fdN) (bN : Binds K fdN ["self"] [])
    (FC : Fun K "_check_contacts" "Board._check_contacts" sBoardCheckContacts fC fdC) (bC : Binds K fdC ["self"] [])
    (F1 : Fun K "is_span" "is_span" sIsSpan fI1 fdI1) (b1 : Binds K fdI1 ["part", "nodes"] []) (g1 : mg "is_span" = some (.ref fI1))
    (F2 : Fun K "are_names" "are_names" sAreNames fI2 fdI2) (b2 : Binds K fdI2 ["names", "least", "most"] []) (g2 : mg "are_names" = some (.ref fI2))
    (F3 : Fun K "is_contact" "is_contact" sIsContact fI3 fdI3) (b3 : Binds K fdI3 ["part", "nodes", "movers"] []) (g3 : mg "is_contact" = some (.ref fI3))
    (FI : Fun K "is_good_name" "is_good_name" sIsGoodName sg fdI) (bI : Binds K fdI ["text"] []) :
    FnOk P w K mg base (L2.CX P w) (k + 4) f fd ["self", "nodes", "lamps", "switches", "relays", "contacts"] (spInitX K C IB) := by
  have GS : FnOk P w K mg base (L2.CX P w) (k + 3) fS fdS ["self"] (spSpansX K C IB) := ok_spansX FS T XD gD F1 b1 g1 FI bI
  have GN : FnOk P w K mg base (L2.CX P w) (k + 3) fN fdN ["self"] (spChkX K C IB) := ok_chkX FN T XD gD F2 b2 g2 FI bI
  have GC : FnOk P w K mg base CX0 (k + 2) fC fdC ["self"] (spCtc K C) := ok_ctc FC T F3 b3 g3
  refine F.okX scInit (fun vs H Q E h => ?_) (fun cdv A outer s H vs Q E hr h => ?_)
  · obtain ⟨p, dx, H0, an, al, as, ar, ac, b, rfl, _⟩ := h
    rfl
  · obtain ⟨p, dx, H0, an, al, as, ar, ac, b, rfl, hp, np, s0, gv, few, txr, ok, q, qx⟩ := h
    have hr2 : Room (k + 2) _ := hr.mono (Nat.le_succ _)
    refine ⟨_, pss_cons (ps_fld (pv 0) (pe_callTy call_tupA (by rfl) T.tup (by decide +kernel) (pa_cons (pv 1) pa_nil)) rfl)
      (pss_cons (ps_fld (pv 0) (pe_callTy call_tupA (by rfl) T.tup (by decide +kernel) (pa_cons (pv 3) pa_nil)) rfl)
      (pss_cons (ps_fld (pv 0) (pe_callTy call_tupA (by rfl) T.tup (by decide +kernel) (pa_cons (pe_lc (own := [("relay", 6)]) (g := gName 6) (tt := tYes) (te := tCB (rTup K) (tCons (tVar 6) tNil)) rfl scInit.nd (pi_seqA (pv 4)) (blkOk_by (N := ["self", "nodes", "lamps", "switches", "relays", "contacts", "relay", "lamp", "contact", "name", "_"]) (sc := defScope sBoardInit) (by decide +kernel)) (fun _ _ _ _ _ => pg_name (i := 6) scInit.nd rfl (Or.inl rfl)) (fun _ _ _ _ _ => pts_nil)
          (fun _ _ _ _ _ => pe_callTy call_tupA (by rfl) T.tup bt_tuple (pa_cons (pv 6) pa_nil))) pa_nil)) rfl)
      (pss_cons (ps_fld (pv 0) (pe_callTy call_tupA (by rfl) T.tup (by decide +kernel) (pa_cons (pe_lc (own := [("lamp", 7)]) (g := gName 7) (tt := tYes) (te := tCB (rTup K) (tCons (tVar 7) tNil)) rfl scInit.nd (pi_seqA (pv 2)) (blkOk_by (N := ["self", "nodes", "lamps", "switches", "relays", "contacts", "relay", "lamp", "contact", "name", "_"]) (sc := defScope sBoardInit) (by decide +kernel)) (fun _ _ _ _ _ => pg_name (i := 7) scInit.nd rfl (Or.inl rfl)) (fun _ _ _ _ _ => pts_nil)
          (fun _ _ _ _ _ => pe_callTy call_tupA (by rfl) T.tup bt_tuple (pa_cons (pv 7) pa_nil))) pa_nil)) rfl)
      (pss_cons (ps_fld (pv 0) (pe_callTy call_tupA (by rfl) T.tup (by decide +kernel) (pa_cons (pe_lc (own := [("contact", 8)]) (g := gName 8) (tt := tYes) (te := tCB (rTup K) (tCons (tVar 8) tNil)) rfl scInit.nd (pi_seqA (pv 5)) (blkOk_by (N := ["self", "nodes", "lamps", "switches", "relays", "contacts", "relay", "lamp", "contact", "name", "_"]) (sc := defScope sBoardInit) (by decide +kernel)) (fun _ _ _ _ _ => pg_name (i := 8) scInit.nd rfl (Or.inl rfl)) (fun _ _ _ _ _ => pts_nil)
          (fun _ _ _ _ _ => pe_callTy call_tupA (by rfl) T.tup bt_tuple (pa_cons (pv 8) pa_nil))) pa_nil)) rfl)
      (pss_cons (ps_expr (pe_meth0 (pv 0) T.cl M.ms GS hr bS .nil (passes_call (takes_of rfl rfl rfl rfl) fun _ _ _ _ h => h)))
      (pss_cons (ps_fld (pv 0) (pe_op op_catA (pe_fld (pv 0) rfl) (pe_callTy call_tupA (by rfl) T.tup (by decide +kernel) (pa_cons (pe_lc (own := [("name", 9), ("_", 10)]) (g := gTup K 3 (gCons (gName 9) (gCons (gName 10) (gCons (gName 10) gNil)))) (tt := tYes) rfl scInit.nd (pi_tup (pe_fld (pv 0) rfl)) (blkOk_by (N := ["self", "nodes", "lamps", "switches", "relays", "contacts", "relay", "lamp", "contact", "name", "_"]) (sc := defScope sBoardInit) (by decide +kernel))
          (fun _ _ _ _ _ => pg_tup rfl (pgs_cons (pg_name (i := 9) scInit.nd rfl (Or.inl rfl)) (pgs_cons (pg_name (i := 10) scInit.nd rfl (Or.inl rfl)) (pgs_cons (pg_name (i := 10) scInit.nd rfl (Or.inl rfl)) pgs_nil)))) (fun _ _ _ _ _ => pts_nil) (fun _ _ _ _ _ => pv 9)) pa_nil))) rfl)
      (pss_cons (ps_expr (pe_meth0 (pv 0) T.cl M.mn GN hr bN .nil (passes_call (takes_of rfl rfl rfl rfl) fun _ _ _ _ h => h)))
      (pss_one (ps_expr (pe_meth0 (pv 0) T.cl M.mc GC hr2 bC .nil pass0)))))))))), ?_⟩
    -- nodes
    refine ⟨_, rfl, ?_⟩
    refine tup_any (Same.sq s0 gv.n) fun tn H1 s1 hn => ?_
    refine ⟨_, rfl, p, C, dx, _, rfl, s1 _ _ hp, T.cl, T.nN, by decide, ?_⟩
    have e1 : Same H0 (upd H1 p (.ins C dx (fl1 tn))) := same_mut (s0.trans s1) np
    -- switches
    refine ⟨_, rfl, ?_⟩
    refine tup_any (Same.sq e1 gv.s) fun ts H2 s2 hs => ?_
    refine ⟨_, rfl, p, C, dx, _, rfl, s2 _ _ upd_same, T.cl, T.nS, by have := fl_len5 tn ts p p p; exact Nat.lt_of_le_of_lt this.2.2.2.2 (by decide), ?_⟩
    have e2 : Same H0 (upd H2 p (.ins C dx (fl2 tn ts))) := same_mut (e1.trans s2) np
    -- relays
    obtain ⟨xr0, gr, rr0⟩ := gv.r
    obtain ⟨xl0, gl, rl0⟩ := gv.l
    obtain ⟨xc0, gc, rc0⟩ := gv.c
    have gr2 := Same.sq e2 gr
    have hr3 := Same.sq e2 gr
    refine ⟨_, rfl, ar, xr0, rfl, seq_rows hr3 (rr0.mono e2) (by rw [List.length_map]; exact few.r) (fun _ => rfl) (fun t G r Q' _ h q' => ⟨_, rfl, tup_any h q'⟩) fun D1 H3 yr s3 hD1 rr => ?_⟩
    refine tup_any (.inl (sq hD1)) fun tr H4 s4 htr => ?_
    refine ⟨_, rfl, p, C, dx, _, rfl, s4 _ _ (s3 _ _ upd_same), T.cl, T.nR, by have := fl_len5 tn ts p p p; exact Nat.lt_of_le_of_lt this.2.2.2.1 (by decide), ?_⟩
    have e4 : Same H0 (upd H4 p (.ins C dx (fl3 tn ts tr))) := same_mut ((e2.trans s3).trans s4) np
    -- lamps
    refine ⟨_, rfl, al, xl0, rfl, seq_rows (Same.sq e4 gl) (rl0.mono e4) (by rw [List.length_map]; exact few.l) (fun _ => rfl) (fun t G r Q' _ h q' => ⟨_, rfl, tup_any h q'⟩) fun D2 H5 yl s5 hD2 rl => ?_⟩
    refine tup_any (.inl (sq hD2)) fun tl H6 s6 htl => ?_
    refine ⟨_, rfl, p, C, dx, _, rfl, s6 _ _ (s5 _ _ upd_same), T.cl, T.nL, by have := fl_len5 tn ts tr p p; exact Nat.lt_of_le_of_lt this.2.2.1 (by decide), ?_⟩
    have e6 : Same H0 (upd H6 p (.ins C dx (fl4 tn ts tr tl))) := same_mut ((e4.trans s5).trans s6) np
    -- contacts
    refine ⟨_, rfl, ac, xc0, rfl, seq_rows (Same.sq e6 gc) (rc0.mono e6) (by rw [List.length_map]; exact few.c) (fun _ => rfl) (fun t G r Q' _ h q' => ⟨_, rfl, tup_any h q'⟩) fun D3 H7 yc s7 hD3 rc => ?_⟩
    refine tup_any (.inl (sq hD3)) fun tc H8 s8 htc => ?_
    refine ⟨_, rfl, p, C, dx, _, rfl, s8 _ _ (s7 _ _ upd_same), T.cl, T.nC, by have := fl_len5 tn ts tr tl p; exact Nat.lt_of_le_of_lt this.2.1 (by decide), ?_⟩
    have e8 : Same H0 (upd H8 p (.ins C dx (fl5 tn ts tr tl tc))) := same_mut ((e6.trans s7).trans s8) np
    -- what stands
    have k8 : KeepP p H8 (upd H8 p (.ins C dx (fl5 tn ts tr tl tc))) := KeepP.upd
    have k6 : KeepP p H6 (upd H8 p (.ins C dx (fl5 tn ts tr tl tc))) := ((KeepP.upd.trans (.of s7)).trans (.of s8)).trans k8
    have k4 : KeepP p H4 (upd H8 p (.ins C dx (fl5 tn ts tr tl tc))) := ((KeepP.upd.trans (.of s5)).trans (.of s6)).trans k6
    have k2 : KeepP p H2 (upd H8 p (.ins C dx (fl5 tn ts tr tl tc))) := ((KeepP.upd.trans (.of s3)).trans (.of s4)).trans k4
    have k1 : KeepP p H1 (upd H8 p (.ins C dx (fl5 tn ts tr tl tc))) := (KeepP.upd.trans (.of s2)).trans k2
    have p4 : H4 p = some (.ins C dx (fl2 tn ts)) := s4 _ _ (s3 _ _ upd_same)
    have p6 : H6 p = some (.ins C dx (fl3 tn ts tr)) := s6 _ _ (s5 _ _ upd_same)
    have p8 : H8 p = some (.ins C dx (fl4 tn ts tr tl)) := s8 _ _ (s7 _ _ upd_same)
    have f5 : Fl K (upd H8 p (.ins C dx (fl5 tn ts tr tl tc))) (fl5 tn ts tr tl tc) b tn ts tr tl tc yr yl yc :=
      ⟨fl5_nodes .., fl5_switches .., fl5_relays .., fl5_lamps .., fl5_contacts .., k1.sqt (s1 _ _ hp) hn, k2.sqt (s2 _ _ upd_same) hs, k4.sqt p4 htr, k6.sqt p6 htl, k8.sqt p8 htc, k4.rows p4 (rr.mono s4), k6.rows p6 (rl.mono s6), k8.rows p8 (rc.mono s8)⟩
    -- _check_spans
    refine ⟨_, rfl, p, dx, _, rfl, upd_same, fl5_only _ _ _ _ _ _ (by decide +kernel), p, dx, _, b, tn, ts, tr, tl, tc, yr, yl, yc, rfl, upd_same, f5, few, txr, fun hsp H9 s9 => ?_, fun hn H9 s9 => qx (fun h => hn h.1) H9 (e8.trans s9)⟩
    have f9 := f5.mono s9
    have hp9 := s9 _ _ (upd_same (H := H8) (a := p) (o := .ins C dx (fl5 tn ts tr tl tc)))
    -- _movers
    refine ⟨_, rfl, p, C, dx, _, _, rfl, hp9, T.cl, T.nS, f9.ls, _, rfl, p, C, dx, _, _, rfl, hp9, T.cl, T.nR, f9.lr, tr, rfl, ⟨_, f9.hr⟩, fun D4 hD4 => ?_⟩
    have lr := f9.rr.len
    rw [List.length_map] at lr
    refine lc_tup (K := K) (a := tr) (xs := yr) (fun i G => Same H9 G ∧ G D4 = some (.lst (((b.relays.map (·.nm)).take i).map V.str)))
      ⟨same_upd hD4, upd_same⟩ (fun i G _ h => Same.sqt h.1 f9.hr) ?_ ?_
    · rintro i v G hi ⟨sm, hd⟩
      obtain ⟨tt, rw_, rfl, hrow, hri⟩ := f9.rr.at hi
      rw [List.getElem?_map] at hri
      obtain ⟨r, hr1, rfl⟩ := Option.map_eq_some_iff.mp hri
      refine ⟨tt, _, rfl, Same.sqt sm hrow, rfl, _, _, rfl, _, _, rfl, _, _, rfl, rfl, rfl, ?_⟩
      refine yesT ?_
      refine ⟨_, rfl, _, hd, ?_, same_mut sm hD4, ?_⟩
      · rw [List.length_map, List.length_take]
        have := few.r
        exact szlt (by rw [List.length_map]; omega)
      · rw [upd_same, ← map_snoc, List.take_add_one, List.getElem?_map, hr1]
        rfl
    · rintro H10 ⟨sm, hd⟩
      rw [lr, ← List.length_map (f := fun r : Sp3 => r.nm), List.take_length] at hd
      refine tup_any (.inl (sq hd)) fun t2 H11 s11 ht2 => ?_
      have s9b := sm.trans s11
      refine cat_any (Same.sqt s9b f9.hs) ht2 (by rw [List.length_map, List.length_map, List.length_map]; have := few.s; have := few.r; omega) fun tm H12 s12 htm => ?_
      have s9c := s9b.trans s12
      rw [← List.map_append] at htm
      refine ⟨_, rfl, p, C, dx, _, rfl, s9c _ _ hp9, T.cl, T.nM, by have := fl_len5 tn ts tr tl tc; exact Nat.lt_of_le_of_lt this.1 (by decide), ?_⟩
      have kf : KeepP p H12 (upd H12 p (.ins C dx (fl6 tn ts tr tl tc tm))) := KeepP.upd
      have p12 := s9c _ _ hp9
      have f12 := f9.mono s9c
      have e12 : Same H0 (upd H12 p (.ins C dx (fl6 tn ts tr tl tc tm))) := same_mut ((e8.trans s9).trans s9c) np
      have f13 : Fl K (upd H12 p (.ins C dx (fl6 tn ts tr tl tc tm))) (fl6 tn ts tr tl tc tm) b tn ts tr tl tc yr yl yc :=
        ⟨by rw [fl6_old _ _ _ _ _ _ (by decide +kernel)]; exact fl5_nodes .., by rw [fl6_old _ _ _ _ _ _ (by decide +kernel)]; exact fl5_switches .., by rw [fl6_old _ _ _ _ _ _ (by decide +kernel)]; exact fl5_relays .., by rw [fl6_old _ _ _ _ _ _ (by decide +kernel)]; exact fl5_lamps ..,
          by rw [fl6_old _ _ _ _ _ _ (by decide +kernel)]; exact fl5_contacts .., kf.sqt p12 f12.hn, kf.sqt p12 f12.hs, kf.sqt p12 f12.hr, kf.sqt p12 f12.hl, kf.sqt p12 f12.hc, kf.rows p12 f12.rr, kf.rows p12 f12.rl, kf.rows p12 f12.rc⟩
      have lm : (fl6 tn ts tr tl tc tm).lookup ("_movers" : Str) = some (.ref tm) := by rw [fl6_at, if_pos rfl]
      have hm : SqT K (upd H12 p (.ins C dx (fl6 tn ts tr tl tc tm))) tm (b.movers.map V.str) := kf.sqt p12 htm
      -- _check_names, _check_contacts
      refine ⟨_, rfl, p, dx, _, rfl, upd_same, fl6_only _ _ _ _ _ _ _ (by decide +kernel), p, dx, _, b, tn, ts, tr, tl, tc, tm, yr, yl, yc, rfl, upd_same, f13, lm, hm, few, fun hnm H14 s14 => ?_, fun hn H14 s14 => qx (fun h => hn h.2) H14 (e12.trans s14)⟩
      have hp14 := s14 _ _ (upd_same (H := H12) (a := p) (o := .ins C dx (fl6 tn ts tr tl tc tm)))
      have f14 := f13.mono s14
      refine ⟨_, rfl, p, dx, _, rfl, hp14, fl6_only _ _ _ _ _ _ _ (by decide +kernel), p, dx, _, b, tn, ts, tr, tl, tc, tm, yr, yl, yc, rfl, hp14, f14, lm, Same.sqt s14 hm, ok.1, ok.2, fun H15 s15 => ?_⟩
      exact q ⟨hsp, hnm⟩ H15 ((e12.trans s14).trans s15) ⟨dx, _, tn, ts, tr, tl, tc, tm, yr, yl, yc, s15 _ _ hp14, f14.mono s15, lm, Same.sqt (s14.trans s15) hm, fl6_only _ _ _ _ _ _⟩
/-! ### _law_same -/
def vD : V → PyData
  | .str z => .str z
  | _ => .none
def FlatOk (v : V) : Prop := v = .non ∨ ∃ z, v = .str z ∧ PyData.strOk z = true
theorem flat_dp {K : PySem.W.Frag} {H : Hp} : ∀ xs : List V, (∀ v ∈ xs, FlatOk v) → DpAll K H xs (xs.map vD)
  | [], _ => .nil
  | v :: xs, h => by
    refine .cons ?_ (flat_dp xs fun u hu => h u (List.mem_cons_of_mem _ hu))
    rcases h v List.mem_cons_self with e | ⟨z, e, _⟩
    · rw [e]
      exact .non
    · rw [e]
      exact .str z
theorem flat_lay : ∀ xs : List V, (∀ v ∈ xs, FlatOk v) → PyData.canLayAll0 (xs.map vD) = true
  | [], _ => rfl
  | v :: xs, h => by
    show (PyData.canLay0 (vD v) && PyData.canLayAll0 (xs.map vD)) = true
    rw [flat_lay xs fun u hu => h u (List.mem_cons_of_mem _ hu), Bool.and_true]
    rcases h v List.mem_cons_self with e | ⟨z, e, hz⟩
    · rw [e]
      rfl
    · rw [e]
      exact hz
theorem flat_depth : ∀ xs : List V, PyData.depthAll (xs.map vD) = 0
  | [] => rfl
  | v :: xs => by
    show max (PyData.depth (vD v)) (PyData.depthAll (xs.map vD)) = 0
    rw [flat_depth xs]
    cases v <;> rfl
def rowsD (rs : List (List V)) : List PyData := rs.map fun r => .tuple (r.map vD)
theorem rows_dp {K : PySem.W.Frag} {H : Hp} : ∀ {xs : List V} {rs : List (List V)}, Rows K H xs rs → (∀ r ∈ rs, ∀ v ∈ r, FlatOk v) → DpAll K H xs (rowsD rs)
  | [], [], _, _ => .nil
  | _ :: _, r :: rs, ⟨⟨t, e, h⟩, q⟩, hf => by
    subst e
    exact .cons (.tup h (flat_dp r (hf r List.mem_cons_self))) (rows_dp q fun u hu => hf u (List.mem_cons_of_mem _ hu))
theorem rows_lay : ∀ rs : List (List V), (∀ r ∈ rs, ∀ v ∈ r, FlatOk v) → PyData.canLayAll0 (rowsD rs) = true
  | [], _ => rfl
  | r :: rs, h => by
    show (PyData.canLayAll0 (r.map vD) && PyData.canLayAll0 (rowsD rs)) = true
    rw [flat_lay r (h r List.mem_cons_self), rows_lay rs fun u hu => h u (List.mem_cons_of_mem _ hu)]
    rfl
theorem rows_depth : ∀ rs : List (List V), PyData.depthAll (rowsD rs) ≤ 1
  | [] => Nat.zero_le _
  | r :: rs => by
    show max (PyData.depthAll (r.map vD) + 1) (PyData.depthAll (rowsD rs)) ≤ 1
    have := rows_depth rs
    rw [flat_depth r]
    omega
theorem rows_shaped (rs : List (List V)) (h : ∀ r ∈ rs, ∀ v ∈ r, FlatOk v) : SeqAt.shaped (.tuple (rowsD rs)) = true := by
  show (PyData.canLayAll0 (rowsD rs) && decide (PyData.depthAll (rowsD rs) + 1 ≤ 64)) = true
  rw [rows_lay rs h]
  have := rows_depth rs
  rw [Bool.true_and, decide_eq_true_eq]
  omega
theorem flat_shaped (xs : List V) (h : ∀ v ∈ xs, FlatOk v) : SeqAt.shaped (.tuple (xs.map vD)) = true := by
  show (PyData.canLayAll0 (xs.map vD) && decide (PyData.depthAll (xs.map vD) + 1 ≤ 64)) = true
  rw [flat_lay xs h, flat_depth xs]
  rfl
theorem shaped_refl {d : PyData} (h : SeqAt.shaped d = true) : PyData.eqv d d = true := SeqAt.eqv_refl d (SeqAt.canLay_of_shaped h)
/-- two tuples of the same flat values: != says False -/
theorem ne_flat {K : PySem.W.Frag} {H : Hp} {a b : Addr} {xs : List V} {Q : VK} (h1 : SqT K H a xs) (h2 : SqT K H b xs) (hf : ∀ v ∈ xs, FlatOk v) (q : Q (.bl false) H) : rNeD K (.ref a) (.ref b) H Q := by
  have hs := flat_shaped xs hf
  refine ⟨_, _, .tup h1 (flat_dp xs hf), .tup h2 (flat_dp xs hf), hs, hs, ?_⟩
  rw [shaped_refl hs]
  exact q
theorem eq_flat {K : PySem.W.Frag} {H : Hp} {a b : Addr} {xs : List V} {Q : VK} (h1 : SqT K H a xs) (h2 : SqT K H b xs) (hf : ∀ v ∈ xs, FlatOk v) (q : Q (.bl true) H) : rEqD K (.ref a) (.ref b) H Q := by
  have hs := flat_shaped xs hf
  refine ⟨_, _, .tup h1 (flat_dp xs hf), .tup h2 (flat_dp xs hf), hs, hs, ?_⟩
  rw [shaped_refl hs]
  exact q
theorem ne_rows {K : PySem.W.Frag} {H : Hp} {a b : Addr} {xs ys : List V} {rs : List (List V)} {Q : VK} (h1 : SqT K H a xs) (h2 : SqT K H b ys) (r1 : Rows K H xs rs) (r2 : Rows K H ys rs) (hf : ∀ r ∈ rs, ∀ v ∈ r, FlatOk v) (q : Q (.bl false) H) : rNeD K (.ref a) (.ref b) H Q := by
  have hs := rows_shaped rs hf
  refine ⟨_, _, .tup h1 (rows_dp r1 hf), .tup h2 (rows_dp r2 hf), hs, hs, ?_⟩
  rw [shaped_refl hs]
  exact q
theorem eq_rows {K : PySem.W.Frag} {H : Hp} {a b : Addr} {xs ys : List V} {rs : List (List V)} {Q : VK} (h1 : SqT K H a xs) (h2 : SqT K H b ys) (r1 : Rows K H xs rs) (r2 : Rows K H ys rs) (hf : ∀ r ∈ rs, ∀ v ∈ r, FlatOk v) (q : Q (.bl true) H) : rEqD K (.ref a) (.ref b) H Q := by
  have hs := rows_shaped rs hf
  refine ⟨_, _, .tup h1 (rows_dp r1 hf), .tup h2 (rows_dp r2 hf), hs, hs, ?_⟩
  rw [shaped_refl hs]
  exact q
theorem nm_flat {zs : List Str} (h : ∀ z ∈ zs, Nm z) : ∀ v ∈ zs.map V.str, FlatOk v := fun v hv => by
  obtain ⟨z, hz, rfl⟩ := List.mem_map.mp hv
  exact .inr ⟨z, rfl, (h z hz).2.2.ok⟩
/-! ### two lists of texts; same_face -/
theorem eqvAll_strs : ∀ xs ys : List Str, PyData.eqvAll ((xs.map V.str).map vD) ((ys.map V.str).map vD) = decide (xs = ys)
  | [], [] => rfl
  | [], y :: ys => rfl
  | x :: xs, [] => rfl
  | x :: xs, y :: ys => by
    show ((x == y) && PyData.eqvAll ((xs.map V.str).map vD) ((ys.map V.str).map vD)) = _
    rw [eqvAll_strs xs ys]
    by_cases h1 : x = y
    · subst h1
      by_cases h2 : xs = ys
      · subst h2
        simp
      · simp [h2]
    · simp [h1]
theorem eqt_strs {K : PySem.W.Frag} {H : Hp} {a b : Addr} {xs ys : List Str} {Q : VK} (h1 : SqT K H a (xs.map V.str)) (h2 : SqT K H b (ys.map V.str)) (f1 : ∀ v ∈ xs.map V.str, FlatOk v) (f2 : ∀ v ∈ ys.map V.str, FlatOk v) (q : Q (.bl (decide (xs = ys))) H) : rEqD K (.ref a) (.ref b) H Q := by
  refine ⟨_, _, .tup h1 (flat_dp _ f1), .tup h2 (flat_dp _ f2), flat_shaped _ f1, flat_shaped _ f2, ?_⟩
  have e : PyData.eqv (.tuple ((xs.map V.str).map vD)) (.tuple ((ys.map V.str).map vD)) = decide (xs = ys) := eqvAll_strs xs ys
  rw [e]
  exact q
/-! ### calls of Board that leave parts out -/
structure Dflt (K : PySem.W.Frag) (D t1 t2 t3 : Addr) : Prop where
  s : PySem.W.nsIn K D "switches" = some (some (.ref t1))
  r : PySem.W.nsIn K D "relays" = some (some (.ref t2))
  c : PySem.W.nsIn K D "contacts" = some (some (.ref t3))
/-- the def of __init__ with the dict of its keyword defaults -/
structure FunK (K : PySem.W.Frag) (x qual : Str) (st : Stmt) (D : Addr) (f : Addr) (fd : FuncData) : Prop where
  ex : ∃ (doc pm : Value) (an : Option Addr) (cdv ct : Value), fd = PySem.W.fnOf x qual (defArgs st) (defBody st) (defScope st) .none (.ref D) doc pm an cdv ct
def gI6 {α : Type} (rl ct : α) : List α → List α → List α
  | [x], [n, s, l] => [x, n, l, s, rl, ct]
  | us, _ => us
theorem kb_init6 {f D t1 t2 t3 : Addr} {fd : FuncData} (F : FunK K "__init__" "Board.__init__" sBoardInit D f fd) (d : Dflt K D t1 t2 t3) : KBn K fd ["self", "nodes", "lamps", "switches", "relays", "contacts"] 1 ["nodes", "switches", "lamps"] (gI6 (.ref t2) (.ref t3)) (gI6 (.ref t2) (.ref t3)) := by
  obtain ⟨doc, pm, an, cdv, ct, rfl⟩ := F.ex
  refine ⟨fun s us ws X h1 h2 => ?_, fun {vs us zs ws} h1 h2 => ?_⟩
  · refine BindsTo.of_looks fun M => KwChain.looks (D := D) X (l := [("relays", .ref t2), ("contacts", .ref t3)]) (fun q hq => by
      simp only [List.mem_cons, List.not_mem_nil, or_false] at hq
      rcases hq with e | e <;> rw [e]
      · exact d.r
      · exact d.c) ?_
    match us, h1, ws, h2 with
    | [_], _, [_, _, _], _ => exact ⟨_, _, _, _, _, _, rfl, rfl, _, _, _, _, _, _, rfl, rfl, rfl⟩
  · cases h1 with
    | nil => exact .nil
    | cons a1 r1 =>
      cases r1 with
      | cons a2 r2 => exact .cons a1 (.cons a2 r2)
      | nil =>
        cases h2 with
        | nil => exact .cons a1 .nil
        | cons b1 q1 =>
          cases q1 with
          | nil => exact .cons a1 .nil
          | cons b2 q2 =>
            cases q2 with
            | nil => exact .cons a1 .nil
            | cons b3 q3 =>
              cases q3 with
              | nil => exact .cons a1 (.cons b1 (.cons b3 (.cons b2 (.cons rfl (.cons rfl .nil)))))
              | cons _ _ => exact .cons a1 .nil
def gI7 {α : Type} (sw ct : α) : List α → List α → List α
  | [x], [n, r, l] => [x, n, l, sw, r, ct]
  | us, _ => us
theorem kb_init7 {f D t1 t2 t3 : Addr} {fd : FuncData} (F : FunK K "__init__" "Board.__init__" sBoardInit D f fd) (d : Dflt K D t1 t2 t3) : KBn K fd ["self", "nodes", "lamps", "switches", "relays", "contacts"] 1 ["nodes", "relays", "lamps"] (gI7 (.ref t1) (.ref t3)) (gI7 (.ref t1) (.ref t3)) := by
  obtain ⟨doc, pm, an, cdv, ct, rfl⟩ := F.ex
  refine ⟨fun s us ws X h1 h2 => ?_, fun {vs us zs ws} h1 h2 => ?_⟩
  · refine BindsTo.of_looks fun M => KwChain.looks (D := D) X (l := [("switches", .ref t1), ("contacts", .ref t3)]) (fun q hq => by
      simp only [List.mem_cons, List.not_mem_nil, or_false] at hq
      rcases hq with e | e <;> rw [e]
      · exact d.s
      · exact d.c) ?_
    match us, h1, ws, h2 with
    | [_], _, [_, _, _], _ => exact ⟨_, _, _, _, _, _, rfl, rfl, _, _, _, _, _, _, rfl, rfl, rfl⟩
  · cases h1 with
    | nil => exact .nil
    | cons a1 r1 =>
      cases r1 with
      | cons a2 r2 => exact .cons a1 (.cons a2 r2)
      | nil =>
        cases h2 with
        | nil => exact .cons a1 .nil
        | cons b1 q1 =>
          cases q1 with
          | nil => exact .cons a1 .nil
          | cons b2 q2 =>
            cases q2 with
            | nil => exact .cons a1 .nil
            | cons b3 q3 =>
              cases q3 with
              | nil => exact .cons a1 (.cons b1 (.cons b3 (.cons rfl (.cons b2 (.cons rfl .nil)))))
              | cons _ _ => exact .cons a1 .nil
/-! ### _law_taken, _law_relay -/
def Tx (y : Str) : Prop := y.length ≤ 20 ∧ ∀ c ∈ y.cps.toList, c < 16 ^ 8
def OkX (b : Bd) : Prop := SpansOk b ∧ NamesOk b
def takB (ws : List Str) (lamp z0 z1 : Str) : Bd := ⟨[z0, z1], ws, [], [⟨lamp, z0, z1⟩], []⟩
def spTaken (K : PySem.W.Frag) : Sp := fun vs H Q _ => ∃ (an as : Addr) (ws : List Str) (lamp z0 z1 : Str), vs = [.ref an, .ref as, .str lamp] ∧ SqL K H an ([z0, z1].map V.str) ∧ SqL K H as (ws.map V.str) ∧ ws.length ≤ 6 ∧ Tx lamp ∧ Tx z0 ∧ Tx z1 ∧ (∀ y ∈ ws, Tx y) ∧
  ∃ v : Bool, (OkX (takB ws lamp z0 z1) ↔ v = true) ∧ ∀ H', Q (.bl v) H'
theorem scTaken : FnScope ["nodes", "switches", "lamp", "board"] ["nodes", "switches", "lamp"] (defScope sLawTaken) := ⟨rfl, rfl, rfl, by decide +kernel, rfl, by decide +kernel, by decide +kernel⟩
theorem ok_taken {f fI C IB D t1 t2 t3 sp sg : Addr} {mc : Value} {fd fdI : FuncData} {k : Nat} (F : Fun K "_law_taken" "_law_taken" sLawTaken f fd) (T : BTxt K mg C mc sp sg) (M : Mk K C fI) (XD : ErrC K IB) (gD : mg "InvalidBoard" = some (.ref IB))
    (FK : FunK K "__init__" "Board.__init__" sBoardInit D fI fdI) (d : Dflt K D t1 t2 t3) (e2 : ∀ H, SqT K H t2 []) (e3 : ∀ H, SqT K H t3 [])
    (GI : FnOk P w K mg base (L2.CX P w) (k + 4) fI fdI ["self", "nodes", "lamps", "switches", "relays", "contacts"] (spInitX K C IB)) : FnOk P w K mg base CX0 (k + 6) f fd ["nodes", "switches", "lamp"] (spTaken K) := by
  have K6 := kb_init6 FK d
  refine F.ok scTaken (fun vs H Q E h => ?_) (fun cdv A outer s H vs Q E hr h => ?_)
  · obtain ⟨an, as, ws, lamp, z0, z1, rfl, _⟩ := h
    rfl
  · obtain ⟨an, as, ws, lamp, z0, z1, rfl, hn, hs, h6, xl, x0, x1, xw, v, hv, q⟩ := h
    have q1 : OkX (takB ws lamp z0 z1) → ∀ H', Q (.bl true) H' := fun h H' => hv.mp h ▸ q H'
    have q2 : ¬ OkX (takB ws lamp z0 z1) → ∀ H', Q (.bl false) H' := fun h H' => by
      have e : v = false := Bool.eq_false_iff.mpr fun e => h (hv.mpr e)
      exact e ▸ q H'
    refine ⟨_, pss_cons (ps_try_only (tb := fun W => tAsg (tMakeK C 0 3 (spInitX K C IB) (gI6 (.ref t2) (.ref t3)) (fun cls d H => ∀ σ, W cls d σ H) tNil (tCons (tVar 0) (tCons (tVar 1) (tCons (tLst (tCons (tTup (tCons (tVar 2) (tCons (tOp (rIxL K) (tVar 0) (tC (.int 0))) (tCons (tOp (rIxL K) (tVar 0) (tC (.int 1))) tNil)))) tNil)) tNil)))) (gName 3)) (Wout := fun _ _ _ _ => False) rfl rfl ⟨rfl, by decide, Or.inl gD⟩ takes0
        (fun W pn xe tk _ => pss_one (ps_set (i := 3) scTaken.nd rfl (.inl rfl) (pe_makeK0 M GI hr (by rfl) T.mgB K6 (passes_call tk (E := fun cls d H => ∀ σ, W cls d σ H) (fun _ _ σ _ h => h σ)) (pk_cons (pv 0) (pk_cons (pv 1) (pk_cons (pe_lst (pa_cons (pe_tup (pa_cons (pv 2) (pa_cons (pe_ix ix_list (pv 0) pe_int (fun _ _ => rfl)) (pa_cons (pe_ix ix_list (pv 0) pe_int (fun _ _ => rfl)) pa_nil)))) pa_nil)) pk_nil))))))
        (fun a oe cls d pn hz hf => pss_one (ps_ret pe_bl)))
      (pss_one (ps_ret (pe_and (pe_cmpR (op_eqD hr.units) (pe_fld (pv 3) rfl) (pe_callTy call_tupA (by rfl) T.tup (by decide +kernel) (pa_cons (pv 0) pa_nil)) (nomark _)) (pe_one (pe_cmpR (op_eqD hr.units) (pe_fld (pv 3) rfl) (pe_callTy call_tupA (by rfl) T.tup (by decide +kernel) (pa_cons (pv 1) pa_nil)) (nomark _)))))), ?_⟩
    refine ⟨_, rfl, _, rfl, _, rfl, _, rfl, an, _, 0, _, rfl, rfl, hn, rfl, _, rfl, an, _, 1, _, rfl, rfl, hn, rfl, by show 3 ≤ sizeLine; decide, fun o1 n1 => ?_⟩
    have s1 := same_upd (o := .tup [.str lamp, .str z0, .str z1]) n1
    refine ⟨by show 1 ≤ sizeLine; decide, fun o2 n2 => ?_⟩
    have s2 := same_upd (o := .lst [.ref o1]) n2
    have s12 := s1.trans s2
    refine ⟨rfl, rfl, fun x dx nx ndx nex => ?_⟩
    have gv : Given K _ (takB ws lamp z0 z1) an o2 as t2 t3 := ⟨.inl (s12.seq hn), .inl (s12.seq hs), ⟨[.ref o1], .inl (sq upd_same), ⟨⟨o1, rfl, .inr (st (s2 _ _ upd_same))⟩, True.intro⟩⟩, ⟨[], .inr (e2 _), True.intro⟩, ⟨[], .inr (e3 _), True.intro⟩⟩
    have few : Few (takB ws lamp z0 z1) := ⟨by show 2 ≤ 1000; decide, by show ws.length ≤ 1000; omega, Nat.zero_le _, by show 1 ≤ 1000; decide, Nat.zero_le _, fun z hz => by
        have hz : z = z0 ∨ z = z1 := by simpa [takB] using hz
        rcases hz with e | e <;> rw [e]
        · have := x0.1; omega
        · have := x1.1; omega, fun z hz => by have := (xw z hz).1; omega, fun r hr => (by cases hr), fun r hr => by
        rw [List.mem_singleton.mp hr]
        have := xl.1
        show lamp.length ≤ 1000000
        omega⟩
    have txr : TextR (takB ws lamp z0 z1) := ⟨fun r hr y hy => by
      rw [List.mem_singleton.mp (show r ∈ [(⟨lamp, z0, z1⟩ : Sp3)] from hr)] at hy
      have hy : y = lamp ∨ y = z0 ∨ y = z1 := by simpa using hy
      rcases hy with e | e | e <;> rw [e]
      · exact xl
      · exact x0
      · exact x1⟩
    refine ⟨x, dx, _, an, o2, as, t2, t3, takB ws lamp z0 z1, rfl, upd_same, nx, same_mut (same_upd ndx) nx, gv, few, txr, ⟨Nat.zero_le _, fun c hc => by cases hc⟩, fun hok H' s' hB => ⟨rfl, ?_⟩, fun hno H' s' σ => ⟨true, XD.e, fun _ a ha => q2 hno H', fun z => nomatch z⟩⟩
    obtain ⟨dy, fs, tn, ts, tr, tl, tc, tm, yr, yl, yc, hp, f, _⟩ := hB
    have hnm := (areNm_names hok.2.1).1
    have hmv := (areNm_names hok.2.2.2.2.1).1
    have hws : ∀ z ∈ ws, Nm z := fun z hz => hmv z (List.mem_append.mpr (.inl hz))
    have s3 := s12.trans s'
    refine ⟨_, rfl, x, C, dy, _, _, rfl, hp, T.cl, T.nN, f.ln, _, rfl, ?_⟩
    refine tup_any (.inl (s3.seq hn)) fun t4 H4 s4 h4 => ?_
    refine eqt_strs (xs := [z0, z1]) (ys := [z0, z1]) (Same.sqt s4 f.hn) h4 (nm_flat hnm) (nm_flat hnm) ⟨_, rfl, ?_⟩
    rw [decide_eq_true rfl]
    refine iteT ?_
    refine ⟨_, rfl, x, C, dy, _, _, rfl, s4 _ _ hp, T.cl, T.nS, f.ls, _, rfl, ?_⟩
    refine tup_any (.inl ((s3.trans s4).seq hs)) fun t5 H5 s5 h5 => ?_
    refine eqt_strs (xs := ws) (ys := ws) (Same.sqt (s4.trans s5) f.hs) h5 (nm_flat hws) (nm_flat hws) ?_
    rw [decide_eq_true rfl]
    exact q1 hok H5
theorem scMovers : FnScope ["self"] ["self"] (defScope sBoardMovers) := ⟨rfl, rfl, rfl, by decide +kernel, rfl, by decide +kernel, by decide +kernel⟩
def spMovers (K : PySem.W.Frag) (C : Addr) : Sp := fun vs H Q _ => ∃ (p : Addr) (b : Bd), vs = [.ref p] ∧ BoardAt K C H p b ∧ ∀ t, SqT K H t (b.movers.map V.str) → Q (.ref t) H
theorem ok_movers {f C sp sg : Addr} {mc : Value} {fd : FuncData} {k : Nat} (F : Fun K "movers" "Board.movers" sBoardMovers f fd) (T : BTxt K mg C mc sp sg) : FnOk P w K mg base CX0 (k + 1) f fd ["self"] (spMovers K C) := by
  refine F.ok scMovers (fun vs H Q E h => ?_) (fun cdv A outer s H vs Q E hr h => ?_)
  · obtain ⟨p, b, rfl, _⟩ := h
    rfl
  · obtain ⟨p, b, rfl, ⟨dx, fs, tn, ts, tr, tl, tc, tm, yr, yl, yc, hp, f, lm, hm, _⟩, q⟩ := h
    refine ⟨_, pss_one (ps_ret (pe_fld (pv 0) rfl)), ?_⟩
    exact ⟨_, rfl, p, C, dx, _, _, rfl, hp, T.cl, T.nM, lm, q tm hm⟩

def relB (text o eo : Str) : Bd := ⟨[o, eo], [], [⟨text, o, eo⟩], [⟨"l", o, eo⟩], []⟩
def spRelay (K : PySem.W.Frag) : Sp := fun vs H Q _ => ∃ (text o : Str), vs = [.str text, .str o] ∧ Tx text ∧ o.length ≤ 12 ∧ Tx o ∧ Tx ("e" ++ o) ∧
  ∃ v : Bool, (OkX (relB text o ("e" ++ o)) ↔ v = true) ∧ ∀ H', Q (.bl v) H'
theorem scRelay : FnScope ["text", "other", "nodes", "board"] ["text", "other"] (defScope sLawRelay) := ⟨rfl, rfl, rfl, by decide +kernel, rfl, by decide +kernel, by decide +kernel⟩
theorem ok_relay {f fI C IB D t1 t2 t3 sp sg fmo pmo : Addr} {mc : Value} {fd fdI fdmo : FuncData} {k : Nat} (F : Fun K "_law_relay" "_law_relay" sLawRelay f fd) (T : BTxt K mg C mc sp sg) (M : Mk K C fI) (XD : ErrC K IB) (gD : mg "InvalidBoard" = some (.ref IB))
    (FK : FunK K "__init__" "Board.__init__" sBoardInit D fI fdI) (d : Dflt K D t1 t2 t3) (e1 : ∀ H, SqT K H t1 []) (e3 : ∀ H, SqT K H t3 [])
    (Fmo : Fun K "movers" "Board.movers" sBoardMovers fmo fdmo) (bmo : Binds K fdmo ["self"] []) (Pmo : PropOf K C "movers" pmo fmo)
    (GI : FnOk P w K mg base (L2.CX P w) (k + 4) fI fdI ["self", "nodes", "lamps", "switches", "relays", "contacts"] (spInitX K C IB)) : FnOk P w K mg base CX0 (k + 6) f fd ["text", "other"] (spRelay K) := by
  have K7 := kb_init7 FK d
  have Gmo : FnOk P w K mg base CX0 1 fmo fdmo ["self"] (spMovers K C) := ok_movers Fmo T
  refine F.ok scRelay (fun vs H Q E h => ?_) (fun cdv A outer s H vs Q E hr h => ?_)
  · obtain ⟨text, o, rfl, _⟩ := h
    rfl
  · obtain ⟨text, o, rfl, xt, l12, xo, xe, v, hv, q⟩ := h
    have q1 : OkX (relB text o ("e" ++ o)) → ∀ H', Q (.bl true) H' := fun h H' => hv.mp h ▸ q H'
    have q2 : ¬ OkX (relB text o ("e" ++ o)) → ∀ H', Q (.bl false) H' := fun h H' => by
      have e : v = false := Bool.eq_false_iff.mpr fun e => h (hv.mpr e)
      exact e ▸ q H'
    have hr2 : Room 2 _ := hr.mono (by omega)
    refine ⟨_, pss_cons (ps_set (i := 2) scRelay.nd rfl (.inl rfl) (pe_lst (pa_cons (pv 1) (pa_cons (pe_op op_add_str pe_str (pv 1)) pa_nil))))
      (pss_cons (ps_try_only (Wout := fun _ _ _ _ => False) rfl rfl ⟨rfl, by decide, Or.inl gD⟩ takes0
        (fun W pn xe tk _ => pss_one (ps_set (i := 3) scRelay.nd rfl (.inl rfl) (pe_makeK0 M GI hr (by rfl) T.mgB K7 (passes_call tk (E := fun cls d H => ∀ σ, W cls d σ H) (fun _ _ σ _ h => h σ))
          (pk_cons (pv 2) (pk_cons (pe_lst (pa_cons (pe_tup (pa_cons (pv 0) (pa_cons (pv 1) (pa_cons (pe_op op_add_str pe_str (pv 1)) pa_nil)))) pa_nil)) (pk_cons (pe_lst (pa_cons (pe_tup (pa_cons pe_str (pa_cons (pv 1) (pa_cons (pe_op op_add_str pe_str (pv 1)) pa_nil)))) pa_nil)) pk_nil))))))
        (fun a oe cls d pn hz hf => pss_one (ps_ret pe_bl)))
      (pss_one (ps_ret (pe_cmpR (op_eqD hr.units) (pe_prop (pv 3) T.cl Pmo Gmo hr2 bmo .nil pass0 rfl) (pe_tup (pa_cons (pv 0) pa_nil)) (nomark _))))), ?_⟩
    have eo : ("e" : Str) ++ o = "e" ++ o := rfl
    have sz : (("e" : Str) ++ o).length ≤ 1000000 := by have := xe.1; omega
    have sz2 : ("e" : Str).length + o.length ≤ 1000000 := by
      have e1 : ("e" : Str).length = 1 := rfl
      omega
    refine ⟨_, rfl, _, rfl, _, _, rfl, rfl, szl sz2, by show 2 ≤ sizeLine; decide, fun o1 n1 => ?_⟩
    have s1 := same_upd (o := .lst [.str o, .str ("e" ++ o)]) n1
    refine ⟨_, rfl, _, rfl, _, rfl, _, rfl, _, _, rfl, rfl, szl sz2, by show 3 ≤ sizeLine; decide, fun o2 n2 => ?_⟩
    have s2 := same_upd (o := .tup [.str text, .str o, .str ("e" ++ o)]) n2
    refine ⟨by show 1 ≤ sizeLine; decide, fun o3 n3 => ?_⟩
    have s3 := same_upd (o := .lst [.ref o2]) n3
    refine ⟨_, rfl, _, rfl, _, _, rfl, rfl, szl sz2, by show 3 ≤ sizeLine; decide, fun o4 n4 => ?_⟩
    have s4 := same_upd (o := .tup [.str "l", .str o, .str ("e" ++ o)]) n4
    refine ⟨by show 1 ≤ sizeLine; decide, fun o5 n5 => ?_⟩
    have s5 := same_upd (o := .lst [.ref o4]) n5
    refine ⟨rfl, rfl, fun x dx nx ndx nex => ?_⟩
    have s25 := ((s2.trans s3).trans s4).trans s5
    have s45 := s4.trans s5
    have gv : Given K _ (relB text o ("e" ++ o)) o1 o5 t1 o3 t3 := ⟨.inl (sq (s25 _ _ upd_same)), .inr (e1 _), ⟨[.ref o4], .inl (sq upd_same), ⟨⟨o4, rfl, .inr (st (s5 _ _ upd_same))⟩, True.intro⟩⟩, ⟨[.ref o2], .inl (sq (s45 _ _ upd_same)), ⟨⟨o2, rfl, .inr (st (s45 _ _ (s3 _ _ upd_same)))⟩, True.intro⟩⟩, ⟨[], .inr (e3 _), True.intro⟩⟩
    have few : Few (relB text o ("e" ++ o)) := ⟨by show 2 ≤ 1000; decide, Nat.zero_le _, by show 1 ≤ 1000; decide, by show 1 ≤ 1000; decide, Nat.zero_le _, fun z hz => by
        have hz : z = o ∨ z = "e" ++ o := by simpa [relB] using hz
        rcases hz with e | e <;> rw [e]
        · omega
        · exact sz, fun z hz => (by cases hz), fun r hr => by
        rw [List.mem_singleton.mp hr]
        have := xt.1
        show text.length ≤ 1000000
        omega, fun r hr => by
        rw [List.mem_singleton.mp hr]
        show ("l" : Str).length ≤ 1000000
        decide +kernel⟩
    have txr : TextR (relB text o ("e" ++ o)) := ⟨fun r hr y hy => by
      have hr : r = (⟨text, o, "e" ++ o⟩ : Sp3) ∨ r = ⟨"l", o, "e" ++ o⟩ := by simpa [relB] using hr
      rcases hr with e | e
      · rw [e] at hy
        have hy : y = text ∨ y = o ∨ y = "e" ++ o := by simpa using hy
        rcases hy with e | e | e <;> rw [e]
        · exact xt
        · exact xo
        · exact xe
      · rw [e] at hy
        have hy : y = "l" ∨ y = o ∨ y = "e" ++ o := by simpa using hy
        rcases hy with e | e | e <;> rw [e]
        · exact ⟨by decide +kernel, by decide +kernel⟩
        · exact xo
        · exact xe⟩
    refine ⟨x, dx, _, o1, o5, t1, o3, t3, relB text o ("e" ++ o), rfl, upd_same, nx, same_mut (same_upd ndx) nx, gv, few, txr, ⟨Nat.zero_le _, fun c hc => by cases hc⟩, fun hok H' s' hB => ⟨rfl, ?_⟩, fun hno H' s' σ => ⟨true, XD.e, fun _ a ha => q2 hno H', fun z => nomatch z⟩⟩
    have hB0 := hB
    obtain ⟨dy, fs, tn, ts, tr, tl, tc, tm, yr, yl, yc, hp, f, _⟩ := hB
    have hmv := (areNm_names hok.2.2.2.2.1).1
    refine ⟨_, rfl, x, dy, fs, rfl, hp, x, _, rfl, hB0, fun t ht => ?_⟩
    refine ⟨_, rfl, by show 1 ≤ sizeLine; decide, fun o6 n6 => ?_⟩
    have s6 := same_upd (o := .tup [.str text]) n6
    refine eqt_strs (xs := [text]) (ys := [text]) (Same.sqt s6 ht) (st upd_same) (nm_flat hmv) (nm_flat hmv) ?_
    rw [decide_eq_true rfl]
    exact q1 hok _
/-! ### when the boards of the law may be -/
theorem okx_tak {ws : List Str} {lamp z0 z1 : Str} : OkX (takB ws lamp z0 z1) ↔ (isNm lamp = true ∧ z0 ≠ z1 ∧ isNm z0 = true ∧ isNm z1 = true ∧ (∀ w ∈ ws, isNm w = true) ∧ ws.Nodup ∧ ws.length ≤ 6) := by
  unfold OkX SpansOk NamesOk takB Bd.movers areNm spanB
  simp
  grind
theorem okx_rel {text o eo : Str} : OkX (relB text o eo) ↔ (isNm text = true ∧ o ≠ eo ∧ isNm o = true ∧ isNm eo = true) := by
  have hl : isNm "l" = true := by decide +kernel
  unfold OkX SpansOk NamesOk relB Bd.movers areNm spanB
  simp [hl]
  grind
/-! ### law -/
@[irreducible] def rModW : R2 := rI (fun _ j => 0 < j) fun i j => .int (i % j)
theorem op_modW {X : Cx} : OpR X (binaryOp .Mod) rModW := by
  unfold rModW
  exact op_mod
theorem modW {i j : Int} {H : Hp} {Q : VK} (h : 0 < j) (q : ∀ n : Nat, (n : Int) < j → Q (.int (n : Int)) H) : rModW (.int i) (.int j) H Q := by
  unfold rModW
  obtain ⟨n, e⟩ : ∃ n : Nat, i % j = (n : Int) := ⟨_, (Int.toNat_of_nonneg (Int.emod_nonneg i (by omega))).symm⟩
  have hl := Int.emod_lt_of_pos i h
  rw [e] at hl
  refine ⟨i, j, rfl, rfl, h, ?_⟩
  show Q (.int (i % j)) H
  rw [e]
  exact q n hl
theorem at_numX {ns : List Int} {i : Nat} (h : i < ns.length) : ∃ x, ∀ z : Int, z = (i : Int) → atI (ns.map V.int) z = some (.int x) := ⟨ns[i], fun z hz => by rw [hz]; exact atI_nat (by rw [List.getElem?_map, List.getElem?_eq_getElem h]; rfl)⟩
def spLaw (K : PySem.W.Frag) : Sp := fun vs H Q _ => ∃ (a : Addr) (ns : List Int), vs = [.ref a] ∧ SqL K H a (ns.map V.int) ∧ ns.length ≤ 63 ∧ ∀ H', Q (.bl true) H'
theorem scLaw : FnScope ["script", "numbers", "good", "all_chars", "text", "k", "place", "due", "char", "told", "other"] ["script"] (defScope sLaw) := ⟨rfl, rfl, rfl, by decide +kernel, rfl, by decide +kernel, by decide +kernel⟩
structure Txt (mg : Str → Option Value) : Prop where
  abs : mg "abs" = none
  int : mg "int" = none
  range : mg "range" = none
  max : mg "max" = none
  isi : mg "isinstance" = none
  bool : mg "bool" = none
theorem bt_bool : bootBuiltins "bool" = some (.type "bool") := by decide +kernel
abbrev goodS : Str := "abcdefghijklmnopqrstuvwxyz0123456789"
abbrev allA : Str := " !\"#$&'()*+,-./0123456789:;<=>?@ABCDEFGHIJKLMNOPQRSTUVWXYZ[\\]^_`"
abbrev allB : Str := "abcdefghijklmnopqrstuvwxyz{|}~\n\t"
def lenB (z : Str) : Bool := decide (1 ≤ z.length) && decide (z.length ≤ 12)
theorem isNm_len (z : Str) : isNm z = (lenB z && z.cps.toList.all fun c => decide (c ∈ alph)) := by
  unfold isNm lenB
  rw [Bool.and_assoc]
theorem scIsNameB : FnScope ["text"] ["text"] (defScope sBoardIsName) := ⟨rfl, rfl, rfl, by decide +kernel, rfl, by decide +kernel, by decide +kernel⟩
theorem ok_isNameB {f C sp sg : Addr} {mc : Value} {fd fdI : FuncData} {k : Nat} (F : Fun K "is_name" "Board.is_name" sBoardIsName f fd) (T : BTxt K mg C mc sp sg) (FI : Fun K "is_good_name" "is_good_name" sIsGoodName sg fdI) (bI : Binds K fdI ["text"] []) : FnOk P w K mg base CX0 (k + 2) f fd ["text"] spIsName := by
  have GI : FnOk P w K mg base CX0 (k + 1) sg fdI ["text"] spIsName := ok_isName FI T
  refine F.ok scIsNameB (fun vs H Q E h => ?_) (fun cdv A outer s H vs Q E hr h => ?_)
  · obtain ⟨z, rfl, _⟩ := h
    rfl
  · obtain ⟨z, rfl, hz, q⟩ := h
    refine ⟨_, pss_one (ps_ret (pe_call GI hr (by rfl) T.gI FI.kp bI .nil pass0 (pa_cons (pv 0) pa_nil))), ?_⟩
    exact ⟨_, rfl, z, rfl, hz, q⟩
theorem ok_law {f C sp sg fN fR fT : Addr} {mc : Value} {fd fdN fdR fdT fdI : FuncData} (F : Fun K "law" "law" sLaw f fd) (T : BTxt K mg C mc sp sg) (X : Txt mg)
    (FN : Fun K "_law_numbers" "_law_numbers" sLawNumbers fN fdN) (bN : Binds K fdN ["script", "many"] []) (gN : mg "_law_numbers" = some (.ref fN)) (GN : FnOk P w K mg base CX0 2 fN fdN ["script", "many"] (spNumbers K))
    (FI : Fun K "is_good_name" "is_good_name" sIsGoodName sg fdI) (bI : Binds K fdI ["text"] []) {sp2 sg2 : Addr} {fdB : FuncData} (S2 : SMet K C mc "is_name" sp2 sg2) (FB : Fun K "is_name" "Board.is_name" sBoardIsName sg2 fdB) (bB : Binds K fdB ["text"] [])
    (FR : Fun K "_law_relay" "_law_relay" sLawRelay fR fdR) (bR : Binds K fdR ["text", "other"] []) (gR : mg "_law_relay" = some (.ref fR)) (GR : FnOk P w K mg base CX0 6 fR fdR ["text", "other"] (spRelay K))
    (FT : Fun K "_law_taken" "_law_taken" sLawTaken fT fdT) (bT : Binds K fdT ["nodes", "switches", "lamp"] []) (gT : mg "_law_taken" = some (.ref fT)) (GT : FnOk P w K mg base CX0 6 fT fdT ["nodes", "switches", "lamp"] (spTaken K)) : FnOk P w K mg base CX0 7 f fd ["script"] (spLaw K) := by
  have GIn : FnOk P w K mg base CX0 2 sg2 fdB ["text"] spIsName := ok_isNameB FB T FI bI
  refine F.ok scLaw (fun vs H Q E h => ?_) (fun cdv A outer s H vs Q E hr h => ?_)
  · obtain ⟨a, ns, rfl, _⟩ := h
    rfl
  · obtain ⟨a, cs0, rfl, hS, hlen, q⟩ := h
    have hr1 : Room 1 _ := hr.mono (by decide)
    have hr2 : Room 2 _ := hr.mono (by decide)
    refine ⟨_, pss_cons (ps_set (i := 1) scLaw.nd rfl (.inl rfl) (pe_call GN hr2 (by rfl) gN FN.kp bN .nil pass0 (pa_cons (pv 0) (pa_cons pe_int pa_nil))))
      (pss_cons (ps_set (i := 2) scLaw.nd rfl (.inl rfl) pe_str)
      (pss_cons (ps_set (i := 3) scLaw.nd rfl (.inl rfl) pe_str)
      (pss_cons (ps_set (i := 3) scLaw.nd rfl (.inl rfl) (pe_op op_add_str (pv 3) pe_str))
      (pss_cons (ps_set (i := 4) scLaw.nd rfl (.inl rfl) pe_str)
      (pss_cons (ps_for PassesOwn.never rfl (pi_range1 rfl X.range (pa_cons (pe_op op_modW (pe_callTy call_int1 (by rfl) X.int (by decide +kernel) (pa_cons (pe_ix ix_list (pv 1) pe_int (fun _ _ => rfl)) pa_nil)) pe_int) pa_nil)) (pg_name (i := 5) scLaw.nd rfl (.inl rfl))
        (pss_one (ps_set (i := 4) scLaw.nd rfl (.inl rfl) (pe_op op_add_str (pv 4) (pe_ix ix_str (pv 2) (pe_op op_modW (pe_callTy call_int1 (by rfl) X.int (by decide +kernel) (pa_cons (pe_ix ix_list (pv 1) (pe_op op_add pe_int (pv 5)) (fun _ _ => rfl)) pa_nil)) pe_int) (fun _ _ => rfl))))))
      (C8.pss_cut (ps_if (PW.pt (pw_and (pt_cmpR op_eq (pe_op op_modW (pe_callTy call_int1 (by rfl) X.int (by decide +kernel) (pa_cons (pe_ix ix_list (pv 1) pe_int (fun _ _ => rfl)) pa_nil)) pe_int) pe_int (nomark _)) (pw_and1 (pt_cmpR op_gt (pe_callB call_len_str (by rfl) T.len PySem.boot_len (pa_cons (pv 4) pa_nil)) pe_int (nomark _)))))
          (pss_cons (ps_set (i := 6) scLaw.nd rfl (.inl rfl) (pe_op op_modW (pe_callTy call_int1 (by rfl) X.int (by decide +kernel) (pa_cons (pe_ix ix_list (pv 1) pe_int (fun _ _ => rfl)) pa_nil)) (pe_callB call_len_str (by rfl) T.len PySem.boot_len (pa_cons (pv 4) pa_nil))))
          (pss_one (ps_set (i := 4) scLaw.nd rfl (.inl rfl) (pe_op op_add_str (pe_op op_add_str (pe_slice sl_str (pv 4) po_none (po_some (pv 6))) (pe_ix ix_str (pv 3) (pe_op op_modW (pe_callTy call_int1 (by rfl) X.int (by decide +kernel) (pa_cons (pe_ix ix_list (pv 1) pe_int (fun _ _ => rfl)) pa_nil)) (pe_callB call_len_str (by rfl) T.len PySem.boot_len (pa_cons (pv 3) pa_nil))) (fun _ _ => rfl))) (pe_slice sl_str (pv 4) (po_some (pe_op op_add (pv 6) pe_int)) po_none))))) pss_nil)
      (C8.pss_cut (ps_set (i := 7) scLaw.nd rfl (.inl rfl) (pe_chain op_le op_le pe_int (pe_callB call_len_str (by rfl) T.len PySem.boot_len (pa_cons (pv 4) pa_nil)) pe_int))
      (pss_cons (ps_for PassesOwn.never rfl (pi_str (pv 4)) (pg_name (i := 8) scLaw.nd rfl (.inl rfl))
        (pss_one (ps_if (pt_cmpR op_notIn_sign (pv 8) (pv 2) (by rfl)) (pss_one (ps_set (i := 7) scLaw.nd rfl (.inl rfl) pe_bl)) pss_nil)))
      (pss_cons (ps_set (i := 9) scLaw.nd rfl (.inl rfl) (pe_smeth (pe_glob (v := .ref C) rfl T.mgB rfl) S2 GIn hr2 bB pass0 (pa_cons (pv 4) pa_nil)))
      (pss_cons (ps_if (PW.pt (pw_or (pt_not (pt_val (pe_callB call_isi (by rfl) X.isi (by decide +kernel) (pa_cons (pv 9) (pa_cons (pe_bltn (v := .ty "bool") (by rfl) X.bool bt_bool rfl) pa_nil))))) (pw_or1 (pt_cmpR op_ne (pv 9) (pv 7) (nomark _))))) (pss_one (ps_ret pe_bl)) pss_nil)
      (pss_cons (ps_set (i := 10) scLaw.nd rfl (.inl rfl) pe_str)
      (C8.pss_cut (ps_if (pt_cmpR op_eq (pv 4) pe_str (nomark _)) (pss_one (ps_set (i := 10) scLaw.nd rfl (.inl rfl) pe_str)) pss_nil)
      (pss_cons (ps_if (pt_cmpR op_ne (pe_call GR hr (by rfl) gR FR.kp bR .nil pass0 (pa_cons (pv 4) (pa_cons (pv 10) pa_nil))) (pv 7) (nomark _)) (pss_one (ps_ret pe_bl)) pss_nil)
      (pss_cons (ps_if (PW.pt (pw_or (pt_cmpR op_ne (pe_call GT hr (by rfl) gT FT.kp bT .nil pass0 (pa_cons (pe_lst (pa_cons (pv 4) (pa_cons (pv 10) pa_nil))) (pa_cons (pe_lst pa_nil) (pa_cons pe_str pa_nil)))) (pv 7) (nomark _))
          (pw_or1 (pt_cmpR op_ne (pe_call GT hr (by rfl) gT FT.kp bT .nil pass0 (pa_cons (pe_lst (pa_cons (pv 10) (pa_cons (pv 4) pa_nil))) (pa_cons (pe_lst pa_nil) (pa_cons pe_str pa_nil)))) (pv 7) (nomark _))))) (pss_one (ps_ret pe_bl)) pss_nil)
      (pss_one (ps_ret (pe_and (pe_cmpR op_eq (pe_call GT hr (by rfl) gT FT.kp bT .nil pass0 (pa_cons (pe_lst (pa_cons (pv 10) (pa_cons (pe_op op_add_str pe_str (pv 10)) pa_nil))) (pa_cons (pe_lst (pa_cons (pv 4) pa_nil)) (pa_cons pe_str pa_nil)))) (pv 7) (nomark _))
          (pe_one (pe_cmpR op_eq (pe_call GT hr (by rfl) gT FT.kp bT .nil pass0 (pa_cons (pe_lst (pa_cons (pv 10) (pa_cons (pe_op op_add_str pe_str (pv 10)) pa_nil))) (pa_cons (pe_lst pa_nil) (pa_cons (pv 4) pa_nil)))) (pv 7) (nomark _)))))))))))))))))))), ?_⟩
    refine ⟨_, rfl, a, cs0, 20, rfl, hS, hlen, by decide, fun H1 o1 ns s1 n1 h1 l1 hn => ?_⟩
    obtain ⟨x0, g0⟩ := at_numX (show 0 < ns.length by omega)
    obtain ⟨x16, g16⟩ := at_numX (show 16 < ns.length by omega)
    obtain ⟨x17, g17⟩ := at_numX (show 17 < ns.length by omega)
    obtain ⟨x18, g18⟩ := at_numX (show 18 < ns.length by omega)
    have lall : (allA ++ allB).length = 96 := by decide +kernel
    have call : ∀ c ∈ (allA ++ allB).cps.toList, c < 16 ^ 8 := by decide +kernel
    have calph : ∀ c ∈ alph, c < 16 ^ 8 := by decide +kernel
    refine ⟨_, rfl, _, _, rfl, rfl, szl (by decide +kernel), ?_⟩
    refine ⟨_, rfl, o1, _, _, _, rfl, rfl, sq h1, g0 _ rfl, .inl ⟨_, rfl, ?_⟩⟩
    refine modW (by decide) fun n hn15 => ?_
    refine ⟨(n : Int), rfl, by omega, by omega, ?_⟩
    refine for_range (lo := 0) (n := (n : Int).toNat) (fun i σ H2 => ∃ (z5 : Option V) (t : Str), σ = [some (.ref a), some (.ref o1), some (.str goodS), some (.str (allA ++ allB)), some (.str t), z5, none, none, none, none, none] ∧ H2 = H1 ∧ t.length = i ∧ ∀ c ∈ t.cps.toList, c < 16 ^ 8) ⟨none, "", rfl, rfl, rfl, fun c hc => by cases hc⟩ ?_ ?_
    · rintro i σ H2 hi ⟨z5, t, rfl, rfl, ht, hc⟩
      have hi14 : i < 14 := by omega
      obtain ⟨xi, gi⟩ := at_numX (show 1 + i < ns.length by omega)
      refine ⟨_, rfl, _, rfl, _, rfl, _, rfl, _, _, rfl, rfl, o1, _, _, _, rfl, rfl, sq h1, gi _ (by omega), .inl ⟨_, rfl, ?_⟩⟩
      refine modW (by decide) fun m hm => ?_
      have hml : m < alph.length := by rw [alph_len]; omega
      refine ⟨_, _, alph[m], rfl, rfl, by decide +kernel, atI_nat (List.getElem?_eq_getElem hml), _, _, rfl, rfl, szl (by show t.length + 1 ≤ _; omega), ?_⟩
      refine ⟨_, t ++ ⟨#[alph[m]]⟩, rfl, rfl, by rw [app_len, ht]; rfl, fun c hc2 => ?_⟩
      rw [app_tl] at hc2
      rcases List.mem_append.mp hc2 with h | h
      · exact hc c h
      · have e : c = alph[m] := by simpa using h
        rw [e]
        exact calph _ (List.getElem_mem hml)
    rintro σ H2 ⟨z5, t, rfl, rfl, ht, hc⟩
    have ht14 : t.length ≤ 14 := by omega
    refine ⟨fun σ G => ∃ (z6 : Option V) (t : Str), σ = [some (.ref a), some (.ref o1), some (.str goodS), some (.str (allA ++ allB)), some (.str t), z5, z6, none, none, none, none] ∧ t.length ≤ 14 ∧ ∀ c ∈ t.cps.toList, c < 16 ^ 8, ?_, ?_⟩
    · refine ⟨_, rfl, o1, _, _, _, rfl, rfl, sq h1, g16 _ rfl, .inl ⟨_, rfl, ?_⟩⟩
      refine modW (by decide) fun r hr3 => ?_
      refine ⟨rfl, _, rfl, ?_⟩
      refine ite2 (fun _ => ?_) (fun _ => ⟨none, t, rfl, ht14, hc⟩)
      refine ⟨_, rfl, t, rfl, szl (by omega), _, _, rfl, rfl, _, rfl, ?_⟩
      refine ite2 (fun e => ?_) (fun _ => ⟨none, t, rfl, ht14, hc⟩)
      have e := of_decide_eq_true e
      refine ⟨_, rfl, o1, _, _, _, rfl, rfl, sq h1, g17 _ rfl, .inl ⟨_, rfl, _, rfl, t, rfl, szl (by omega), ?_⟩⟩
      refine modW (by omega) fun p hp => ?_
      have h1c := cut_take t p
      have h2c := cut_drop t (p + 1)
      rw [show (((p + 1 : Nat) : Int)) = (p : Int) + 1 by omega] at h2c
      have lt := len_tl t
      have lc1 : (cutS t none (some (p : Int))).length = p := by rw [len_tl, h1c, List.length_take]; omega
      have lc2 : (cutS t (some ((p : Int) + 1)) none).length = t.length - (p + 1) := by rw [len_tl, h2c, List.length_drop]; omega
      refine ⟨_, rfl, _, rfl, _, rfl, _, rfl, szl (by omega), _, rfl, _, rfl, o1, _, _, _, rfl, rfl, sq h1, g18 _ rfl, .inl ⟨_, rfl, _, rfl, _, rfl, szl (by rw [lall]; decide), ?_⟩⟩
      refine modW (by rw [lall]; decide) fun u hu => ?_
      rw [lall] at hu
      have hul : u < (allA ++ allB).cps.toList.length := by rw [← len_tl, lall]; omega
      refine ⟨_, _, (allA ++ allB).cps.toList[u], rfl, rfl, szl (by rw [lall]; decide), atI_nat (List.getElem?_eq_getElem hul), _, _, rfl, rfl, szl (by rw [lc1]; show p + 1 ≤ _; omega), _, rfl, _, rfl, _, _, rfl, rfl, _, rfl, _, rfl, szl (by omega), _, _, rfl, rfl, szl (by rw [app_len, lc1, lc2]; show p + 1 + _ ≤ _; omega), ?_⟩
      refine ⟨_, _, rfl, ?_, fun c hc2 => ?_⟩
      · rw [app_len, app_len, lc1, lc2]
        show p + 1 + _ ≤ 14
        omega
      · rw [app_tl, app_tl, h1c, h2c] at hc2
        rcases List.mem_append.mp hc2 with h | h
        · rcases List.mem_append.mp h with h | h
          · exact hc c (List.mem_of_mem_take h)
          · have e : c = (allA ++ allB).cps.toList[u] := by simpa using h
            rw [e]
            exact call _ (List.getElem_mem hul)
        · exact hc c (List.mem_of_mem_drop h)
    clear ht ht14 hc t
    rintro σ G ⟨z6, t, rfl, ht14, hc⟩
    refine ⟨fun σ G => σ = [some (.ref a), some (.ref o1), some (.str goodS), some (.str (allA ++ allB)), some (.str t), z5, z6, some (.bl (lenB t)), none, none, none], ?_, ?_⟩
    · refine ⟨_, rfl, t, rfl, szl (by omega), _, _, rfl, rfl, _, rfl, ?_⟩
      refine ite2 (fun h1 => ?_) (fun h1 => ?_)
      · have h1' : 1 ≤ t.length := by
          have := of_decide_eq_true h1
          omega
        refine ⟨_, _, rfl, rfl, ?_⟩
        have e : decide ((t.length : Int) ≤ 12) = lenB t := by
          unfold lenB
          rw [decide_eq_true h1', Bool.true_and]
          exact decide_eq_decide.mpr (by omega)
        show [_, _, _, _, _, _, _, some (V.bl (decide ((t.length : Int) ≤ 12))), _, _, _] = _
        rw [e]
      · have h1' : ¬ 1 ≤ t.length := by
          have := of_decide_eq_false (Bool.eq_false_iff.mpr h1)
          omega
        have e : lenB t = false := by
          unfold lenB
          rw [decide_eq_false h1', Bool.false_and]
        rw [e]
        rfl
    rintro σ G2 rfl
    refine ⟨_, rfl, _, rfl, ?_⟩
    refine for_it walk_str (fun i σ G => ∃ z8 : Option V, σ = [some (.ref a), some (.ref o1), some (.str goodS), some (.str (allA ++ allB)), some (.str t), z5, z6, some (.bl (lenB t && (t.cps.toList.take i).all fun c => decide (c ∈ alph))), z8, none, none]) ⟨none, by rw [List.take_zero, List.all_nil, Bool.and_true]⟩ (fun _ _ _ _ _ => trivial) ?_ ?_
    · rintro i v σ G3 G4 hi ⟨z8, rfl⟩ ⟨rfl, c, hcc, rfl⟩
      have hc' : t.cps.toList[i]? = some c := by
        rw [Array.getElem?_toList]
        exact hcc
      have e3 : (t.cps.toList.take (i + 1)).all (fun c => decide (c ∈ alph)) = ((t.cps.toList.take i).all (fun c => decide (c ∈ alph)) && decide (c ∈ alph)) := by
        rw [List.take_add_one, hc', List.all_append]
        simp
      refine ⟨_, rfl, _, rfl, c, _, rfl, rfl, _, rfl, ?_⟩
      refine ite2 (fun e => ?_) (fun e => ?_)
      · have e : decide (c ∈ alph) = false := by
          have e : (!decide (c ∈ alph)) = true := e
          rwa [Bool.not_eq_true'] at e
        refine ⟨some (.str ⟨#[c]⟩), ?_⟩
        rw [e3, e, Bool.and_false, Bool.and_false]
        rfl
      · have e : decide (c ∈ alph) = true := by
          have e : ¬ (!decide (c ∈ alph)) = true := e
          rwa [Bool.not_eq_true', Bool.not_eq_false] at e
        refine ⟨some (.str ⟨#[c]⟩), ?_⟩
        rw [e3, e, Bool.and_true]
        rfl
    rintro σ G3 ⟨z8, rfl⟩
    have ev : (lenB t && (t.cps.toList.take t.cps.size).all fun c => decide (c ∈ alph)) = isNm t := by
      rw [isNm_len, show t.cps.size = t.cps.toList.length by simp, List.take_length]
    rw [ev]
    refine ⟨rfl, _, rfl, t, rfl, by omega, fun G4 g4 => ?_⟩
    refine ⟨_, rfl, _, _, .type "bool", .type "bool", true, rfl, .ty "bool", .base (.bl _), kit_ty (by decide +kernel), _, rfl, ?_⟩
    refine iteF ?_
    refine ⟨_, rfl, _, rfl, rfl, _, rfl, ?_⟩
    rw [decide_eq_true rfl]
    refine iteF ?_
    refine ⟨fun σ G => ∃ o : Str, σ = [some (.ref a), some (.ref o1), some (.str goodS), some (.str (allA ++ allB)), some (.str t), z5, z6, some (.bl (isNm t)), z8, some (.bl (isNm t)), some (.str o)] ∧ (o = "q" ∨ o = "w") ∧ o ≠ t, ?_, ?_⟩
    · refine ⟨_, rfl, rfl, _, rfl, ?_⟩
      refine ite2 (fun e => ⟨"w", rfl, .inr rfl, fun e2 => ?_⟩) (fun e => ⟨"q", rfl, .inl rfl, fun e2 => e (decide_eq_true (by rw [e2]))⟩)
      have e := of_decide_eq_true e
      rw [← e2] at e
      exact absurd e (by decide +kernel)
    rintro σ G5 ⟨o, rfl, ho, hot⟩
    have xt : Tx t := ⟨by omega, hc⟩
    have fo : Tx o ∧ Tx ("e" ++ o) ∧ isNm o = true ∧ isNm ("e" ++ o) = true ∧ o ≠ "e" ++ o ∧ o.length = 1 := by
      rcases ho with rfl | rfl
      · exact ⟨⟨by decide +kernel, by decide +kernel⟩, ⟨by decide +kernel, by decide +kernel⟩, by decide +kernel, by decide +kernel, by decide +kernel, by decide +kernel⟩
      · exact ⟨⟨by decide +kernel, by decide +kernel⟩, ⟨by decide +kernel, by decide +kernel⟩, by decide +kernel, by decide +kernel, by decide +kernel, by decide +kernel⟩
    obtain ⟨xo, xe, no, ne, oe, lo⟩ := fo
    have xl : Tx "l" := ⟨by decide +kernel, by decide +kernel⟩
    have nl : isNm "l" = true := by decide +kernel
    have sz2 : ("e" : Str).length + o.length ≤ 1000000 := by
      have e1 : ("e" : Str).length = 1 := rfl
      omega
    generalize hw : isNm t = v at *
    have i0 : OkX (relB t o ("e" ++ o)) ↔ v = true := ⟨fun h => hw ▸ (okx_rel.mp h).1, fun h => okx_rel.mpr ⟨hw.trans h, oe, no, ne⟩⟩
    have i1 : OkX (takB [] "l" t o) ↔ v = true := ⟨fun h => hw ▸ (okx_tak.mp h).2.2.1, fun h => okx_tak.mpr ⟨nl, hot.symm, hw.trans h, no, (fun w hw => by cases hw), List.nodup_nil, Nat.zero_le _⟩⟩
    have i2 : OkX (takB [] "l" o t) ↔ v = true := ⟨fun h => hw ▸ (okx_tak.mp h).2.2.2.1, fun h => okx_tak.mpr ⟨nl, hot, no, hw.trans h, (fun w hw => by cases hw), List.nodup_nil, Nat.zero_le _⟩⟩
    have i3 : OkX (takB [t] "l" o ("e" ++ o)) ↔ v = true := ⟨fun h => hw ▸ (okx_tak.mp h).2.2.2.2.1 t (List.mem_singleton.mpr rfl), fun h => okx_tak.mpr ⟨nl, oe, no, ne, (fun w hw2 => by rw [List.mem_singleton.mp hw2]; exact hw.trans h), by simp, by show 1 ≤ 6; decide⟩⟩
    have i4 : OkX (takB [] t o ("e" ++ o)) ↔ v = true := ⟨fun h => hw ▸ (okx_tak.mp h).1, fun h => okx_tak.mpr ⟨hw.trans h, oe, no, ne, (fun w hw => by cases hw), List.nodup_nil, Nat.zero_le _⟩⟩
    refine ⟨_, rfl, _, rfl, t, o, rfl, xt, by omega, xo, xe, v, i0, fun G6 => ⟨_, rfl, rfl, _, rfl, ?_⟩⟩
    rw [decide_eq_true rfl]
    refine iteF ?_
    refine ⟨_, rfl, _, rfl, by show 2 ≤ sizeLine; decide, fun o2 n2 => ?_⟩
    refine ⟨Nat.zero_le _, fun o3 n3 => ?_⟩
    refine ⟨o2, o3, [], "l", t, o, rfl, sq (same_upd n3 _ _ upd_same), sq upd_same, Nat.zero_le _, xl, xt, xo, (fun y hy => by cases hy), v, i1, fun G7 => ⟨_, rfl, rfl, _, rfl, ?_⟩⟩
    rw [decide_eq_true rfl]
    refine iteF ?_
    refine ⟨_, rfl, _, rfl, by show 2 ≤ sizeLine; decide, fun o4 n4 => ?_⟩
    refine ⟨Nat.zero_le _, fun o5 n5 => ?_⟩
    refine ⟨o4, o5, [], "l", o, t, rfl, sq (same_upd n5 _ _ upd_same), sq upd_same, Nat.zero_le _, xl, xo, xt, (fun y hy => by cases hy), v, i2, fun G8 => ⟨_, rfl, rfl, _, rfl, ?_⟩⟩
    rw [decide_eq_true rfl]
    refine iteF ?_
    refine ⟨_, rfl, _, rfl, _, _, rfl, rfl, szl sz2, by show 2 ≤ sizeLine; decide, fun o6 n6 => ?_⟩
    refine ⟨_, rfl, by show 1 ≤ sizeLine; decide, fun o7 n7 => ?_⟩
    refine ⟨o6, o7, [t], "l", o, "e" ++ o, rfl, sq (same_upd n7 _ _ upd_same), sq upd_same, by show 1 ≤ 6; decide, xl, xo, xe, (fun y hy => by rw [List.mem_singleton.mp hy]; exact xt), v, i3, fun G9 => ⟨_, rfl, rfl, _, rfl, ?_⟩⟩
    rw [decide_eq_true rfl]
    refine iteT ?_
    refine ⟨_, rfl, _, rfl, _, _, rfl, rfl, szl sz2, by show 2 ≤ sizeLine; decide, fun o8 n8 => ?_⟩
    refine ⟨Nat.zero_le _, fun o9 n9 => ?_⟩
    refine ⟨_, rfl, o8, o9, [], t, o, "e" ++ o, rfl, sq (same_upd n9 _ _ upd_same), sq upd_same, Nat.zero_le _, xt, xo, xe, (fun y hy => by cases hy), v, i4, fun G10 => ⟨_, rfl, rfl, ?_⟩⟩
    rw [decide_eq_true rfl]
    exact q _
end
theorem all_mk {l : PySem.W.OpenLaw} {w : World} {K : PySem.W.Frag} {h : Heap} {mg : Str → Option Value} {fa : Addr} (X : K.In h) (G : h.Ns mainGlobals mg) (hfa : mg "law" = some (.ref fa))
    {C : Addr}
    {tc1 : Tok}
    {tc2 : Tok}
    {tc3 : Tok}
    {tc4 : Tok}
    {tc5 : Tok}
    {tg1 : Tok}
    {tg2 : Tok}
    {tg3 : Tok}
    {tg4 : Tok}
    {aW : Addr} {xW yW : Tok} {ddW : Option Addr} {nW : Nat} {ssW : Array (Option Value)}
    {aY : Addr} {xY yY : Tok} {ddY : Option Addr} {nY : Nat} {ssY : Array (Option Value)}
    {fCsp : Addr} {odCsp anCsp : Option Addr} {slCsp : Array (Option Value)} {ocCsp dcCsp pmCsp cdCsp ctCsp : Value} {kVCsp : Value}
    {fCnm : Addr} {odCnm anCnm : Option Addr} {slCnm : Array (Option Value)} {ocCnm dcCnm pmCnm cdCnm ctCnm : Value} {kVCnm : Value}
    {fCct : Addr} {odCct anCct : Option Addr} {slCct : Array (Option Value)} {ocCct dcCct pmCct cdCct ctCct : Value} {kVCct : Value}
    {D : Addr}
    {fIni : Addr} {odIni anIni : Option Addr} {slIni : Array (Option Value)} {ocIni dcIni pmIni cdIni ctIni : Value}
    {dt1 : Addr} {ddt1 : Option Addr} {nt1 : Nat} {st1 : Array (Option Value)}
    {dt2 : Addr} {ddt2 : Option Addr} {nt2 : Nat} {st2 : Array (Option Value)}
    {dt3 : Addr} {ddt3 : Option Addr} {nt3 : Nat} {st3 : Array (Option Value)}
    {pIsb : Addr} {rsIsb : List Value}
    {fIsb : Addr} {odIsb anIsb : Option Addr} {slIsb : Array (Option Value)} {ocIsb dcIsb pmIsb cdIsb ctIsb : Value} {kVIsb : Value}
    {pMov : Addr} {rsMov : List Value}
    {fMov : Addr} {odMov anMov : Option Addr} {slMov : Array (Option Value)} {ocMov dcMov pmMov cdMov ctMov : Value} {kVMov : Value}
    {fIsn : Addr} {odIsn anIsn : Option Addr} {slIsn : Array (Option Value)} {ocIsn dcIsn pmIsn cdIsn ctIsn : Value} {kVIsn : Value}
    {fArn : Addr} {odArn anArn : Option Addr} {slArn : Array (Option Value)} {ocArn dcArn pmArn cdArn ctArn : Value} {kVArn : Value}
    {fSpn : Addr} {odSpn anSpn : Option Addr} {slSpn : Array (Option Value)} {ocSpn dcSpn pmSpn cdSpn ctSpn : Value} {kVSpn : Value}
    {fCnt : Addr} {odCnt anCnt : Option Addr} {slCnt : Array (Option Value)} {ocCnt dcCnt pmCnt cdCnt ctCnt : Value} {kVCnt : Value}
    {fRow : Addr} {odRow anRow : Option Addr} {slRow : Array (Option Value)} {ocRow dcRow pmRow cdRow ctRow : Value} {kVRow : Value}
    {fNum : Addr} {odNum anNum : Option Addr} {slNum : Array (Option Value)} {ocNum dcNum pmNum cdNum ctNum : Value} {kVNum : Value}
    {fTkn : Addr} {odTkn anTkn : Option Addr} {slTkn : Array (Option Value)} {ocTkn dcTkn pmTkn cdTkn ctTkn : Value} {kVTkn : Value}
    {fRly : Addr} {odRly anRly : Option Addr} {slRly : Array (Option Value)} {ocRly dcRly pmRly cdRly ctRly : Value} {kVRly : Value}
    {fLaw : Addr} {odLaw anLaw : Option Addr} {slLaw : Array (Option Value)} {ocLaw dcLaw pmLaw cdLaw ctLaw : Value} {kVLaw : Value}
    {IB : Addr}
    (aC : PySem.W.nsIn K mainGlobals "Board" = some (some (.ref C)))
    (pg : PySem.W.plainGet K C Str.empty = true)
    (hd : PySem.W.hasDictIn K C = true)
    (po : PySem.W.plainOver K C = true)
    (sa : PySem.W.findIn K (.ref C) "__setattr__" = some (some (.builtin "object.__setattr__")))
    (mk : PySem.W.makesIn K C = true)
    (kc : PySem.W.keepIn K (.ref C) = true)
    (rd : PySem.W.readsIn K C (.type "type") = true)
    (ga : PySem.W.specialIn K (.ref C) "__getattribute__" = some (some (.builtin "type.__getattribute__")))
    (nN : PySem.W.findIn K (.ref C) "nodes" = some none)
    (nS : PySem.W.findIn K (.ref C) "switches" = some none)
    (nR : PySem.W.findIn K (.ref C) "relays" = some none)
    (nL : PySem.W.findIn K (.ref C) "lamps" = some none)
    (nC : PySem.W.findIn K (.ref C) "contacts" = some none)
    (nM : PySem.W.findIn K (.ref C) "_movers" = some none)
    (m1 : PySem.W.findCls K (.ref C) (.type "type") "MOST_NODES" = some (.val (.int 16 tc1)))
    (m2 : PySem.W.findCls K (.ref C) (.type "type") "MOST_SWITCHES" = some (.val (.int 6 tc2)))
    (m3 : PySem.W.findCls K (.ref C) (.type "type") "MOST_RELAYS" = some (.val (.int 8 tc3)))
    (m4 : PySem.W.findCls K (.ref C) (.type "type") "MOST_LAMPS" = some (.val (.int 8 tc4)))
    (m5 : PySem.W.findCls K (.ref C) (.type "type") "MOST_CONTACTS" = some (.val (.int 40 tc5)))
    (q1 : PySem.W.nsIn K mainGlobals "LONGEST_NAME" = some (some (.int 12 tg1)))
    (q2 : PySem.W.nsIn K mainGlobals "LEAST_NODES" = some (some (.int 2 tg2)))
    (q3 : PySem.W.nsIn K mainGlobals "LEAST_LAMPS" = some (some (.int 1 tg3)))
    (q4 : PySem.W.nsIn K mainGlobals "CHARACTERS" = some (some (.str "abcdefghijklmnopqrstuvwxyz0123456789" tg4)))
    (bW : PySem.W.nsIn K mainGlobals "WHENS" = some (some (.ref aW)))
    (eW : K.lookup aW = some ⟨.type "tuple", ddW, .seq #[.str "make" xW, .str "break" yW] nW, ssW⟩)
    (bY : PySem.W.nsIn K mainGlobals "WAYS" = some (some (.ref aY)))
    (eY : K.lookup aY = some ⟨.type "tuple", ddY, .seq #[.str "both" xY, .str "forward" yY] nY, ssY⟩)
    (aCsp : PySem.W.findIn K (.ref C) "_check_spans" = some (some (.ref fCsp)))
    (iCsp : PySem.W.isFn K (.ref fCsp) = true)
    (lCsp : K.lookup fCsp = some ⟨ocCsp, odCsp, .func (PySem.W.fnOf "_check_spans" "Board._check_spans" (defArgs sBoardCheckSpans) (defBody sBoardCheckSpans) (defScope sBoardCheckSpans) .none kVCsp dcCsp pmCsp anCsp cdCsp ctCsp), slCsp⟩)
    (cCsp : PySem.W.codeIn K cdCsp "Board._check_spans" = true)
    (kCsp : PySem.W.keepIn K (.ref fCsp) = true)
    (aCnm : PySem.W.findIn K (.ref C) "_check_names" = some (some (.ref fCnm)))
    (iCnm : PySem.W.isFn K (.ref fCnm) = true)
    (lCnm : K.lookup fCnm = some ⟨ocCnm, odCnm, .func (PySem.W.fnOf "_check_names" "Board._check_names" (defArgs sBoardCheckNames) (defBody sBoardCheckNames) (defScope sBoardCheckNames) .none kVCnm dcCnm pmCnm anCnm cdCnm ctCnm), slCnm⟩)
    (cCnm : PySem.W.codeIn K cdCnm "Board._check_names" = true)
    (kCnm : PySem.W.keepIn K (.ref fCnm) = true)
    (aCct : PySem.W.findIn K (.ref C) "_check_contacts" = some (some (.ref fCct)))
    (iCct : PySem.W.isFn K (.ref fCct) = true)
    (lCct : K.lookup fCct = some ⟨ocCct, odCct, .func (PySem.W.fnOf "_check_contacts" "Board._check_contacts" (defArgs sBoardCheckContacts) (defBody sBoardCheckContacts) (defScope sBoardCheckContacts) .none kVCct dcCct pmCct anCct cdCct ctCct), slCct⟩)
    (cCct : PySem.W.codeIn K cdCct "Board._check_contacts" = true)
    (kCct : PySem.W.keepIn K (.ref fCct) = true)
    (aIni : PySem.W.findIn K (.ref C) "__init__" = some (some (.ref fIni)))
    (iIni : PySem.W.isFn K (.ref fIni) = true)
    (lIni : K.lookup fIni = some ⟨ocIni, odIni, .func (PySem.W.fnOf "__init__" "Board.__init__" (defArgs sBoardInit) (defBody sBoardInit) (defScope sBoardInit) .none (.ref D) dcIni pmIni anIni cdIni ctIni), slIni⟩)
    (cIni : PySem.W.codeIn K cdIni "Board.__init__" = true)
    (kIni : PySem.W.keepIn K (.ref fIni) = true)
    (dn1 : PySem.W.nsIn K D "switches" = some (some (.ref dt1)))
    (dl1 : K.lookup dt1 = some ⟨.type "tuple", ddt1, .seq #[] nt1, st1⟩)
    (dn2 : PySem.W.nsIn K D "relays" = some (some (.ref dt2)))
    (dl2 : K.lookup dt2 = some ⟨.type "tuple", ddt2, .seq #[] nt2, st2⟩)
    (dn3 : PySem.W.nsIn K D "contacts" = some (some (.ref dt3)))
    (dl3 : K.lookup dt3 = some ⟨.type "tuple", ddt3, .seq #[] nt3, st3⟩)
    (aIsb : PySem.W.findCls K (.ref C) (.type "type") "is_name" = some (.get (.builtin "staticmethod.__get__") (.ref pIsb) .none (.ref C)))
    (rIsb : PySem.W.recIn K pIsb "staticmethod" = some (.ref fIsb :: rsIsb))
    (lIsb : K.lookup fIsb = some ⟨ocIsb, odIsb, .func (PySem.W.fnOf "is_name" "Board.is_name" (defArgs sBoardIsName) (defBody sBoardIsName) (defScope sBoardIsName) .none kVIsb dcIsb pmIsb anIsb cdIsb ctIsb), slIsb⟩)
    (cIsb : PySem.W.codeIn K cdIsb "Board.is_name" = true)
    (kIsb : PySem.W.keepIn K (.ref fIsb) = true)
    (aMov : PySem.W.findIn K (.ref C) "movers" = some (some (.ref pMov)))
    (uMov : PySem.W.specialIn K (.ref pMov) "__get__" = some (some (.builtin "property.__get__")))
    (vMov : PySem.W.takesIn K (.ref pMov) = some true)
    (rMov : PySem.W.recIn K pMov "property" = some (.ref fMov :: rsMov))
    (lMov : K.lookup fMov = some ⟨ocMov, odMov, .func (PySem.W.fnOf "movers" "Board.movers" (defArgs sBoardMovers) (defBody sBoardMovers) (defScope sBoardMovers) .none kVMov dcMov pmMov anMov cdMov ctMov), slMov⟩)
    (cMov : PySem.W.codeIn K cdMov "Board.movers" = true)
    (kMov : PySem.W.keepIn K (.ref fMov) = true)
    (aIsn : PySem.W.nsIn K mainGlobals "is_good_name" = some (some (.ref fIsn)))
    (lIsn : K.lookup fIsn = some ⟨ocIsn, odIsn, .func (PySem.W.fnOf "is_good_name" "is_good_name" (defArgs sIsGoodName) (defBody sIsGoodName) (defScope sIsGoodName) .none kVIsn dcIsn pmIsn anIsn cdIsn ctIsn), slIsn⟩)
    (cIsn : PySem.W.codeIn K cdIsn "is_good_name" = true)
    (kIsn : PySem.W.keepIn K (.ref fIsn) = true)
    (aArn : PySem.W.nsIn K mainGlobals "are_names" = some (some (.ref fArn)))
    (lArn : K.lookup fArn = some ⟨ocArn, odArn, .func (PySem.W.fnOf "are_names" "are_names" (defArgs sAreNames) (defBody sAreNames) (defScope sAreNames) .none kVArn dcArn pmArn anArn cdArn ctArn), slArn⟩)
    (cArn : PySem.W.codeIn K cdArn "are_names" = true)
    (kArn : PySem.W.keepIn K (.ref fArn) = true)
    (aSpn : PySem.W.nsIn K mainGlobals "is_span" = some (some (.ref fSpn)))
    (lSpn : K.lookup fSpn = some ⟨ocSpn, odSpn, .func (PySem.W.fnOf "is_span" "is_span" (defArgs sIsSpan) (defBody sIsSpan) (defScope sIsSpan) .none kVSpn dcSpn pmSpn anSpn cdSpn ctSpn), slSpn⟩)
    (cSpn : PySem.W.codeIn K cdSpn "is_span" = true)
    (kSpn : PySem.W.keepIn K (.ref fSpn) = true)
    (aCnt : PySem.W.nsIn K mainGlobals "is_contact" = some (some (.ref fCnt)))
    (lCnt : K.lookup fCnt = some ⟨ocCnt, odCnt, .func (PySem.W.fnOf "is_contact" "is_contact" (defArgs sIsContact) (defBody sIsContact) (defScope sIsContact) .none kVCnt dcCnt pmCnt anCnt cdCnt ctCnt), slCnt⟩)
    (cCnt : PySem.W.codeIn K cdCnt "is_contact" = true)
    (kCnt : PySem.W.keepIn K (.ref fCnt) = true)
    (aRow : PySem.W.nsIn K mainGlobals "_law_row" = some (some (.ref fRow)))
    (lRow : K.lookup fRow = some ⟨ocRow, odRow, .func (PySem.W.fnOf "_law_row" "_law_row" (defArgs sLawRow) (defBody sLawRow) (defScope sLawRow) .none kVRow dcRow pmRow anRow cdRow ctRow), slRow⟩)
    (cRow : PySem.W.codeIn K cdRow "_law_row" = true)
    (kRow : PySem.W.keepIn K (.ref fRow) = true)
    (aNum : PySem.W.nsIn K mainGlobals "_law_numbers" = some (some (.ref fNum)))
    (lNum : K.lookup fNum = some ⟨ocNum, odNum, .func (PySem.W.fnOf "_law_numbers" "_law_numbers" (defArgs sLawNumbers) (defBody sLawNumbers) (defScope sLawNumbers) .none kVNum dcNum pmNum anNum cdNum ctNum), slNum⟩)
    (cNum : PySem.W.codeIn K cdNum "_law_numbers" = true)
    (kNum : PySem.W.keepIn K (.ref fNum) = true)
    (aTkn : PySem.W.nsIn K mainGlobals "_law_taken" = some (some (.ref fTkn)))
    (lTkn : K.lookup fTkn = some ⟨ocTkn, odTkn, .func (PySem.W.fnOf "_law_taken" "_law_taken" (defArgs sLawTaken) (defBody sLawTaken) (defScope sLawTaken) .none kVTkn dcTkn pmTkn anTkn cdTkn ctTkn), slTkn⟩)
    (cTkn : PySem.W.codeIn K cdTkn "_law_taken" = true)
    (kTkn : PySem.W.keepIn K (.ref fTkn) = true)
    (aRly : PySem.W.nsIn K mainGlobals "_law_relay" = some (some (.ref fRly)))
    (lRly : K.lookup fRly = some ⟨ocRly, odRly, .func (PySem.W.fnOf "_law_relay" "_law_relay" (defArgs sLawRelay) (defBody sLawRelay) (defScope sLawRelay) .none kVRly dcRly pmRly anRly cdRly ctRly), slRly⟩)
    (cRly : PySem.W.codeIn K cdRly "_law_relay" = true)
    (kRly : PySem.W.keepIn K (.ref fRly) = true)
    (aLaw : PySem.W.nsIn K mainGlobals "law" = some (some (.ref fLaw)))
    (lLaw : K.lookup fLaw = some ⟨ocLaw, odLaw, .func (PySem.W.fnOf "law" "law" (defArgs sLaw) (defBody sLaw) (defScope sLaw) .none kVLaw dcLaw pmLaw anLaw cdLaw ctLaw), slLaw⟩)
    (cLaw : PySem.W.codeIn K cdLaw "law" = true)
    (kLaw : PySem.W.keepIn K (.ref fLaw) = true)
    (zlen : PySem.W.nsIn K mainGlobals "len" = some none)
    (zall : PySem.W.nsIn K mainGlobals "all" = some none)
    (ztuple : PySem.W.nsIn K mainGlobals "tuple" = some none)
    (zenumerate : PySem.W.nsIn K mainGlobals "enumerate" = some none)
    (zabs : PySem.W.nsIn K mainGlobals "abs" = some none)
    (zint : PySem.W.nsIn K mainGlobals "int" = some none)
    (zrange : PySem.W.nsIn K mainGlobals "range" = some none)
    (zmax : PySem.W.nsIn K mainGlobals "max" = some none)
    (zisinstance : PySem.W.nsIn K mainGlobals "isinstance" = some none)
    (zbool : PySem.W.nsIn K mainGlobals "bool" = some none)
    (aIB : PySem.W.nsIn K mainGlobals "InvalidBoard" = some (some (.ref IB)))
    (xIB : PySem.W.excIn K IB [.type "ValueError", .type "Exception", .type "BaseException", .type "object"] "ValueError.__new__" = true)
    (kIB : PySem.W.keepIn K (.ref IB) = true)
    (bIB : PySem.W.subIn K (.ref IB) (.type "BaseException") = some true)
    (tIB : PySem.W.typeIn K (.ref IB) = some (.type "type"))
    (iIB : PySem.W.isClsIn K IB = true)
    (sIB : PySem.W.subIn K (.ref IB) (.ref IB) = some true)
    : ∃ fd : FuncData, (∀ (s : Shared) (v : Value), BindsTo s fd ⟨[v], []⟩ [("script", v)]) ∧ ∀ base : Heap, K.In base → base.Ns mainGlobals mg → FnOk l.prog w K mg base CX0 7 fa fd ["script"] (spLaw K) := by
  have e := hfa.symm.trans (PySem.W.mg_of X G aLaw)
  cases e
  have FCsp := fun_mk (st := sBoardCheckSpans) lCsp cCsp kCsp
  have bCsp := FCsp.binds (ps := ["self"]) fun _ _ _ _ _ _ us hl => match us, hl with | [_], _ => rfl
  have FCnm := fun_mk (st := sBoardCheckNames) lCnm cCnm kCnm
  have bCnm := FCnm.binds (ps := ["self"]) fun _ _ _ _ _ _ us hl => match us, hl with | [_], _ => rfl
  have FCct := fun_mk (st := sBoardCheckContacts) lCct cCct kCct
  have bCct := FCct.binds (ps := ["self"]) fun _ _ _ _ _ _ us hl => match us, hl with | [_], _ => rfl
  have FIni := fun_mk (st := sBoardInit) lIni cIni kIni
  have FIsb := fun_mk (st := sBoardIsName) lIsb cIsb kIsb
  have bIsb := FIsb.binds (ps := ["text"]) fun _ _ _ _ _ _ us hl => match us, hl with | [_], _ => rfl
  have FMov := fun_mk (st := sBoardMovers) lMov cMov kMov
  have bMov := FMov.binds (ps := ["self"]) fun _ _ _ _ _ _ us hl => match us, hl with | [_], _ => rfl
  have T : BTxt K mg C (.type "type") fIsn fIsn := ⟨⟨pg, hd, po, sa⟩, nN, nS, nR, nL, nC, nM, PySem.W.mg_of X G aC, PySem.W.mg_of X G aIsn, ⟨rd, ga⟩, ⟨_, m1⟩, ⟨_, m2⟩, ⟨_, m3⟩, ⟨_, m4⟩, ⟨_, m5⟩,
    ⟨_, PySem.W.mg_of X G q1⟩, ⟨_, PySem.W.mg_of X G q2⟩, ⟨_, PySem.W.mg_of X G q3⟩, ⟨_, PySem.W.mg_of X G q4⟩,
    ⟨_, PySem.W.mg_of X G bW, fun H => .inr ⟨_, _, _, eW, rfl, rfl, by show 2 ≤ sizeLine; decide, .cons ⟨_, rfl⟩ (.cons ⟨_, rfl⟩ .nil)⟩⟩, ⟨_, PySem.W.mg_of X G bY, fun H => .inr ⟨_, _, _, eY, rfl, rfl, by show 2 ≤ sizeLine; decide, .cons ⟨_, rfl⟩ (.cons ⟨_, rfl⟩ .nil)⟩⟩,
    PySem.W.mg_none_of X G zlen, PySem.W.mg_none_of X G zall, PySem.W.mg_none_of X G ztuple, PySem.W.mg_none_of X G zenumerate⟩
  have FIsn := fun_mk (st := sIsGoodName) lIsn cIsn kIsn
  have bIsn := FIsn.binds (ps := ["text"]) fun _ _ _ _ _ _ us hl => match us, hl with | [_], _ => rfl
  have gIsn := PySem.W.mg_of X G aIsn
  have FArn := fun_mk (st := sAreNames) lArn cArn kArn
  have bArn := FArn.binds (ps := ["names", "least", "most"]) fun _ _ _ _ _ _ us hl => match us, hl with | [_, _, _], _ => rfl
  have gArn := PySem.W.mg_of X G aArn
  have FSpn := fun_mk (st := sIsSpan) lSpn cSpn kSpn
  have bSpn := FSpn.binds (ps := ["part", "nodes"]) fun _ _ _ _ _ _ us hl => match us, hl with | [_, _], _ => rfl
  have gSpn := PySem.W.mg_of X G aSpn
  have FCnt := fun_mk (st := sIsContact) lCnt cCnt kCnt
  have bCnt := FCnt.binds (ps := ["part", "nodes", "movers"]) fun _ _ _ _ _ _ us hl => match us, hl with | [_, _, _], _ => rfl
  have gCnt := PySem.W.mg_of X G aCnt
  have FRow := fun_mk (st := sLawRow) lRow cRow kRow
  have bRow := FRow.binds (ps := ["cell", "many"]) fun _ _ _ _ _ _ us hl => match us, hl with | [_, _], _ => rfl
  have gRow := PySem.W.mg_of X G aRow
  have FNum := fun_mk (st := sLawNumbers) lNum cNum kNum
  have bNum := FNum.binds (ps := ["script", "many"]) fun _ _ _ _ _ _ us hl => match us, hl with | [_, _], _ => rfl
  have gNum := PySem.W.mg_of X G aNum
  have FTkn := fun_mk (st := sLawTaken) lTkn cTkn kTkn
  have bTkn := FTkn.binds (ps := ["nodes", "switches", "lamp"]) fun _ _ _ _ _ _ us hl => match us, hl with | [_, _, _], _ => rfl
  have gTkn := PySem.W.mg_of X G aTkn
  have FRly := fun_mk (st := sLawRelay) lRly cRly kRly
  have bRly := FRly.binds (ps := ["text", "other"]) fun _ _ _ _ _ _ us hl => match us, hl with | [_, _], _ => rfl
  have gRly := PySem.W.mg_of X G aRly
  have FLaw := fun_mk (st := sLaw) lLaw cLaw kLaw
  have gLaw := PySem.W.mg_of X G aLaw
  have Y : Txt mg := ⟨PySem.W.mg_none_of X G zabs, PySem.W.mg_none_of X G zint, PySem.W.mg_none_of X G zrange, PySem.W.mg_none_of X G zmax, PySem.W.mg_none_of X G zisinstance, PySem.W.mg_none_of X G zbool⟩
  refine ⟨PySem.W.fnOf "law" "law" (defArgs sLaw) (defBody sLaw) (defScope sLaw) .none kVLaw dcLaw pmLaw anLaw cdLaw ctLaw, fun s v => .of_eq rfl, fun base _ _ => ?_⟩
  have M : Mk K C fIni := ⟨mk, aIni, iIni, kc⟩
  have XD : ErrC K IB := ⟨xIB, kIB, bIB, tIB, exm_self bIB iIB tIB sIB⟩
  have gD := PySem.W.mg_of X G aIB
  have GI : FnOk l.prog w K mg base (L2.CX l.prog w) 4 fIni _ ["self", "nodes", "lamps", "switches", "relays", "contacts"] (spInitX K C IB) := ok_initX FIni T ⟨⟨aCsp, iCsp, kCsp⟩, ⟨aCnm, iCnm, kCnm⟩, ⟨aCct, iCct, kCct⟩⟩ XD gD FCsp bCsp FCnm bCnm FCct bCct FSpn bSpn gSpn FArn bArn gArn FCnt bCnt gCnt FIsn bIsn (fI1 := fSpn) (fI2 := fArn) (fI3 := fCnt)
  have GR : FnOk l.prog w K mg base CX0 1 fRow _ ["cell", "many"] spRow := ok_row FRow Y.abs Y.range
  have GN : FnOk l.prog w K mg base CX0 2 fNum _ ["script", "many"] (spNumbers K) := ok_numbers FNum kRow bRow gRow GR Y.max T.len
  have e1 : ∀ H, SqT K H dt1 [] := fun H => .inr ⟨_, _, _, dl1, rfl, rfl, by decide, .nil⟩
  have e2 : ∀ H, SqT K H dt2 [] := fun H => .inr ⟨_, _, _, dl2, rfl, rfl, by decide, .nil⟩
  have e3 : ∀ H, SqT K H dt3 [] := fun H => .inr ⟨_, _, _, dl3, rfl, rfl, by decide, .nil⟩
  have GT : FnOk l.prog w K mg base CX0 6 fTkn _ ["nodes", "switches", "lamp"] (spTaken K) := ok_taken FTkn T M XD gD ⟨⟨_, _, _, _, _, rfl⟩⟩ ⟨dn1, dn2, dn3⟩ e2 e3 GI
  have GY : FnOk l.prog w K mg base CX0 6 fRly _ ["text", "other"] (spRelay K) := ok_relay FRly T M XD gD ⟨⟨_, _, _, _, _, rfl⟩⟩ ⟨dn1, dn2, dn3⟩ e1 e3 FMov bMov ⟨aMov, uMov, vMov, ⟨_, rMov⟩⟩ GI
  exact ok_law FLaw T Y FNum bNum gNum GN FIsn bIsn (⟨rd, ga, aIsb, ⟨_, rIsb⟩, kIsb⟩ : SMet K C (.type "type") "is_name" pIsb fIsb) FIsb bIsb FRly bRly gRly GY FTkn bTkn gTkn GT
end Lv
open PySem PySem.W PyProof.Rows
set_option maxRecDepth 100000 in
set_option maxHeartbeats 0 in
theorem PySem.Challenge.cw_leverhouse_k09_names_holds : PySem.Challenge.rw_leverhouse_k09_names.Holds := by
  w_on; o_law; k_head; (case hw => w_witness2)
  k_fill
  refine L2.walk_of (l := PySem.Challenge.rw_leverhouse_k09_names) (n := 63) (k := 7) (x := "script") (CX := fun _ => L2.CX0) (sp := fun w => Lv.spLaw _) rfl (by decide) rfl ⟨rfl, by decide, by decide⟩ (fun w h Y => PySem.W.kIn_of Y) ?F (fun _ _ a ns hl _ hS => ⟨a, ns, rfl, hS, hl, fun _ => rfl⟩) (fun _ _ _ _ _ h => h)
  case F =>
    intro w mg fa h KX G hmg
    refine' Lv.all_mk KX G hmg ?aC ?pg ?hd ?po ?sa ?mk ?kc ?rd ?ga ?nN ?nS ?nR ?nL ?nC ?nM ?m1 ?m2 ?m3 ?m4 ?m5 ?q1 ?q2 ?q3 ?q4 ?bW ?eW ?bY ?eY ?aCsp ?iCsp ?lCsp ?cCsp ?kCsp ?aCnm ?iCnm ?lCnm ?cCnm ?kCnm ?aCct ?iCct ?lCct ?cCct ?kCct ?aIni ?iIni ?lIni ?cIni ?kIni ?dn1 ?dl1 ?dn2 ?dl2 ?dn3 ?dl3 ?aIsb ?rIsb ?lIsb ?cIsb ?kIsb ?aMov ?uMov ?vMov ?rMov ?lMov ?cMov ?kMov ?aIsn ?lIsn ?cIsn ?kIsn ?aArn ?lArn ?cArn ?kArn ?aSpn ?lSpn ?cSpn ?kSpn ?aCnt ?lCnt ?cCnt ?kCnt ?aRow ?lRow ?cRow ?kRow ?aNum ?lNum ?cNum ?kNum ?aTkn ?lTkn ?cTkn ?kTkn ?aRly ?lRly ?cRly ?kRly ?aLaw ?lLaw ?cLaw ?kLaw ?zlen ?zall ?ztuple ?zenumerate ?zabs ?zint ?zrange ?zmax ?zisinstance ?zbool ?aIB ?xIB ?kIB ?bIB ?tIB ?iIB ?sIB
    (case aC => k_is); (case pg => k_is); (case hd => k_is); (case po => k_is); (case sa => k_is); (case mk => k_is); (case kc => k_is); (case rd => k_is); (case ga => k_is); (case nN => k_is); (case nS => k_is); (case nR => k_is); (case nL => k_is); (case nC => k_is); (case nM => k_is); (case m1 => k_is); (case m2 => k_is); (case m3 => k_is); (case m4 => k_is); (case m5 => k_is); (case q1 => k_is); (case q2 => k_is); (case q3 => k_is); (case q4 => k_is); (case bW => k_is); (case eW => k_is); (case bY => k_is); (case eY => k_is); (case aCsp => k_is); (case iCsp => k_is); (case lCsp => k_is); (case cCsp => k_is); (case kCsp => k_is); (case aCnm => k_is); (case iCnm => k_is); (case lCnm => k_is); (case cCnm => k_is); (case kCnm => k_is); (case aCct => k_is); (case iCct => k_is); (case lCct => k_is); (case cCct => k_is); (case kCct => k_is); (case aIni => k_is); (case iIni => k_is); (case lIni => k_is); (case cIni => k_is); (case kIni => k_is); (case dn1 => k_is); (case dl1 => k_is); (case dn2 => k_is); (case dl2 => k_is); (case dn3 => k_is); (case dl3 => k_is); (case aIsb => k_is); (case rIsb => k_is); (case lIsb => k_is); (case cIsb => k_is); (case kIsb => k_is); (case aMov => k_is); (case uMov => k_is); (case vMov => k_is); (case rMov => k_is); (case lMov => k_is); (case cMov => k_is); (case kMov => k_is); (case aIsn => k_is); (case lIsn => k_is); (case cIsn => k_is); (case kIsn => k_is); (case aArn => k_is); (case lArn => k_is); (case cArn => k_is); (case kArn => k_is); (case aSpn => k_is); (case lSpn => k_is); (case cSpn => k_is); (case kSpn => k_is); (case aCnt => k_is); (case lCnt => k_is); (case cCnt => k_is); (case kCnt => k_is); (case aRow => k_is); (case lRow => k_is); (case cRow => k_is); (case kRow => k_is); (case aNum => k_is); (case lNum => k_is); (case cNum => k_is); (case kNum => k_is); (case aTkn => k_is); (case lTkn => k_is); (case cTkn => k_is); (case kTkn => k_is); (case aRly => k_is); (case lRly => k_is); (case cRly => k_is); (case kRly => k_is); (case aLaw => k_is); (case lLaw => k_is); (case cLaw => k_is); (case kLaw => k_is); (case zlen => k_is); (case zall => k_is); (case ztuple => k_is); (case zenumerate => k_is); (case zabs => k_is); (case zint => k_is); (case zrange => k_is); (case zmax => k_is); (case zisinstance => k_is); (case zbool => k_is); (case aIB => k_is); (case xIB => k_exc); (case kIB => k_is); (case bIB => k_is); (case tIB => k_is); (case iIB => k_is); (case sIB => first | rfl | k_is)

