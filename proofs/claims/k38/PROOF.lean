import PyProof.Rows.All
import Wide.All
import OpenK.AllK
import Wide.FinOn
import HandS.ForMost
import HandS.IsInst
import HandS.Property
import HandS.Codes
import HandS.Style
import HandS.WordsExc
import KE.KEqSeq
import HandS.Deep
import HandS.GenList
import HandS.GenYield
import KE.GoesMore
import PyProof.Draws
import KE.SortData
import KE.KUnpackStar
import HandS.CallLocal
import HandS.ClsMeth
import HandS.FStr
import HandS.StrMore
import KE.DataFind
import HandS.Conv
import HandS.SortInts
import KE.DataMinMax
import HandS.SortKw
import HandS.DictTup
import KE.KDictCopyH
import HandS.TupAny
import HandS.TupMul
import HandS.Wide
import KE.KRevSl
import PySem.Challenge.RW_chasepost_k38_whole_other_numbers_of_hou
set_option Elab.async false
set_option linter.all false
set_option maxRecDepth 100000
namespace Cp
open PySem L2
def top (i : Nat) : Stmt := PySem.Challenge.pw_chasepost_k38_whole_other_numbers_of_hou.main.body.getD i (.Pass ⟨0, 0, 0, 0⟩)
/-! ### enumerate over a tuple: a walk for a for (the library's own serves lists) -/
section
open PyProof.Rows
open PySem.AutoSeq1 (wpAny_loadPart')
/-- what enumerate makes of a tuple: its iterator, then the enumerate object -/
abbrev enumHeap (g : Heap) (t : Addr) : Heap :=
  (g.push { cls := .type "tuple_iterator", data := .fields #[.ref t, .int 0 0] }).push { cls := .type "enumerate", data := .fields #[.none, .bool false, .ref g.objs.size, rawInt 0, .none, .none] }
theorem enumT_meets (t : Addr) (xs : Array Value) (k : Nat) (dd : Option Addr) (sv : Array (Option Value)) :
    Meets (Builtin.«enumerate.__new__» ⟨[.type "enumerate", .ref t], []⟩) (fun _ R s => s.heap.get? t = some { cls := .type "tuple", dict := dd, data := .seq xs k, slots := sv } ∧
      R (.ok (.ret (.ref (s.heap.objs.size + 1)))) { s with heap := enumHeap s.heap t }) :=
  .of_wp fun P1 w1 A1 R1 s1 h1 => by
    obtain ⟨hp, gg, dr, tks, oo⟩ := s1
    obtain ⟨ht, hR⟩ := h1
    have hz : (hp.push { cls := .type "tuple_iterator", data := .fields #[.ref t, .int 0 0] }).objs.size = hp.objs.size + 1 := Heap.size_push ..
    have subE := sub_enumerate
    have isT : Heap.IsTuple (Shared.heap ⟨hp, gg, dr, tks, oo⟩) t xs := ⟨_, ht, rfl, k, rfl⟩
    replace hR : R1 (.ok (.ret (.ref (hp.push { cls := .type "tuple_iterator", data := .fields #[.ref t, .int 0 0] }).objs.size))) ⟨enumHeap hp t, gg, dr, tks, oo⟩ := by rw [hz]; exact hR
    wp_walk using wpAny_loadPart' ht
    refine wpAny_stack_any fun stk => wpAny_pure ?_
    split
    · rename_i cc _ _ _ _ _
      cases (cc == Value.type "enumerate")
      · wp_walk using wpAny_loadPart' ht, wpAny_pyIter_tuple isT
        exact ⟨_, rfl, hR⟩
      · wp_walk using wpAny_loadPart' ht, wpAny_pyIter_tuple isT
        exact ⟨_, rfl, hR⟩
    · wp_walk using wpAny_loadPart' ht, wpAny_pyIter_tuple isT
      exact ⟨_, rfl, hR⟩
theorem enumT_call {P : Program} {w : World} {A : Around} {E : Value → Shared → Prop} {s : Shared} {t : Addr} {xs : Array Value} {Q : Value → Shared → Prop} (hT : s.heap.IsTuple t xs)
    (h : ∀ h', IsEnum h' (s.heap.objs.size + 1) s.heap.objs.size 0 .none → h'.IsTupleIter s.heap.objs.size t 0 → (∀ b o, s.heap.get? b = some o → h'.get? b = some o) → Q (.ref (s.heap.objs.size + 1)) { s with heap := h' }) :
    wpAny (model P w) A (call (.type "enumerate") [.ref t]) Q E s := by
  obtain ⟨⟨cv, dd, dv, sv⟩, ht, hc, k, hd⟩ := hT
  obtain rfl : cv = .type "tuple" := hc
  obtain rfl : dv = .seq xs k := hd
  refine callType_new F.called_enumerate (by decide) (F.typeCall_enumerate_1 _) (F.newCall_enumerate_1 _) (fun ob => F.args_object_init_2 ob _) F.entry_enumerate_new (enumT_meets t xs k dd sv) ⟨ht, ?_⟩
  have hz : (s.heap.push { cls := .type "tuple_iterator", data := .fields #[.ref t, .int 0 0] }).objs.size = s.heap.objs.size + 1 := Heap.size_push ..
  have q1 : IsEnum (enumHeap s.heap t) (s.heap.objs.size + 1) s.heap.objs.size 0 .none := by
    have q := Heap.get?_push_size (s.heap.push { cls := .type "tuple_iterator", data := .fields #[.ref t, .int 0 0] }) (o := { cls := .type "enumerate", data := .fields #[.none, .bool false, .ref s.heap.objs.size, rawInt 0, .none, .none] }) rfl
    rw [hz] at q
    exact q
  exact ⟨⟨_, q1, rfl⟩, h _ q1 ⟨_, Heap.get?_push_of_some _ (Heap.get?_push_size _ rfl), rfl, rfl⟩ fun b o x => Heap.get?_push_of_some _ (Heap.get?_push_of_some _ x)⟩
/-- the tuple at a as it stands, each item in a new pair with its number -/
def IteT (K : PySem.W.Frag) (a : Addr) : It :=
  ⟨fun i H => ∃ (xs : List V) (x : V), SqT K H a xs ∧ xs[i]? = some x, fun i H v H' => ∃ T x, v = .ref T ∧ H T = none ∧ H' = upd H T (.tup [.int (i : Nat), x]) ∧ ∀ xs, SqT K H a xs → xs[i]? = some x, fun i H => ∃ xs : List V, SqT K H a xs ∧ xs.length ≤ i⟩
theorem enumT_turn {P : Program} {w : World} {K : PySem.W.Frag} {elts : List Expr} {kk : Nat} {tpos : Pos} (a e it : Addr) (hai : a ≠ it) (hae : a ≠ e) :
    Turn P w K (.Tuple elts kk tpos) (IteT K a) [e, it] e (fun i h => (∃ old, IsEnum h e it ((i : Nat) : Int) old) ∧ h.IsTupleIter it a i ∧ e ≠ it) where
  mem := List.mem_cons_self
  obj := fun i h st b hb => by
    obtain ⟨⟨old, q1⟩, ⟨o, q2, _, q3⟩, _⟩ := st
    rcases List.mem_cons.mp hb with z | z
    · rw [z]
      exact ⟨_, q1, fun v q => nomatch q⟩
    · rw [List.mem_singleton.mp z]
      exact ⟨o, q2, fun v q => by rw [q3] at q; cases q⟩
  keep := fun i h h' st k => by
    obtain ⟨⟨old, q1⟩, ⟨o, q2, r⟩, q4⟩ := st
    exact ⟨⟨old, k e List.mem_cons_self _ q1⟩, ⟨o, k it (by simp) o q2, r⟩, q4⟩
  item := by
    rintro X rfl rfl rfl hc i pins s σ H E I hf ⟨⟨old, q1⟩, q2, q3⟩ ⟨xs, x, hq, hx⟩
    obtain ⟨its, rv, p, hz⟩ := I.tuple hq
    obtain ⟨u, hu, ru⟩ := rv.get hx
    have hel : e < s.heap.objs.size := Heap.lt_size q1
    have hil : it < s.heap.objs.size := by
      obtain ⟨_, q, _⟩ := q2
      exact Heap.lt_size q
    have tup : s.heap.IsTuple a its.toArray := p
    have hlt : i < its.toArray.size := by
      have z := (List.getElem?_eq_some_iff.mp hu).1
      simpa using z
    have D : Draws X.prog X.w X.A.in1 it [it, a] its.toArray.size (fun i v => its.toArray[i]? = some v) (fun i h => h.IsTupleIter it a i ∧ h.IsTuple a its.toArray) := Draws.tuple (by exact I.ok.hd hc) it a hai its.toArray
    refine wpAny_pyNext_enum_itemD D q1 ⟨q2, tup⟩ hlt q3 (by simp [q3, hae.symm]) fun y h' tk hP ho st' hT hsz hk => ?_
    obtain rfl : y = u := by
      have z : its.toArray[i]? = some u := by simpa using hu
      exact Option.some.inj (hP.symm.trans z)
    refine ⟨_, rfl, wpAny_letOwnedTupleGo_enum (s := { s with heap := h', toks := tk + 1 }) ho fun h2 q5 sb => ?_⟩
    have hT2 : h2.get? s.heap.objs.size = some { cls := .type "tuple", data := .seq #[.int i tk, y] } := (sb.2 _ (Nat.ne_of_gt hel)).trans hT
    have new : ObjOk X.prog X.w (upd H s.heap.objs.size (.tup [.int (i : Nat), x])) h2 s.heap.objs.size (.tup [.int (i : Nat), x]) :=
      ⟨by show 2 ≤ sizeLine; decide, [.int i tk, y], .cons ⟨_, rfl⟩ (.cons ru .nil), ⟨_, hT2, rfl, _, rfl⟩⟩
    have I2 : Inv X pins σ (upd H s.heap.objs.size (.tup [.int (i : Nat), x])) { s with heap := h2, toks := tk + 1 } :=
      I.turnedNew (ch := [e, it]) (fun b ob hb q => (sb.2 b (fun z => hb (by simp [z]))).trans (hk b ob (fun z => hb (by simp [z])) (fun z => hb (by simp [z])) q)) hf (Nat.le_refl _) new
    refine ⟨.ref s.heap.objs.size, _, I2, rfl, ⟨_, x, rfl, I.hok.fresh (Nat.le_refl _), rfl, fun ys hy => by rw [I.tuple_inj hy hq]; exact hx⟩, ⟨⟨y, ?_⟩, ?_, q3⟩, fun b hb => ?_⟩
    · rw [show ((i + 1 : Nat) : Int) = (i : Int) + 1 by omega]
      exact q5
    · obtain ⟨o, z, r⟩ := st'.1
      exact ⟨o, (sb.2 it (Ne.symm q3)).trans z, r⟩
    · have hb2 : b < s.heap.objs.size := by
        rcases List.mem_cons.mp hb with z | z
        · rw [z]; exact hel
        · rw [List.mem_singleton.mp z]; exact hil
      rw [upd_ne (Nat.ne_of_lt hb2)]
      exact (hf b hb).1
  done := by
    rintro X rfl rfl rfl hc i pins s σ H E I hf ⟨⟨old, q1⟩, q2, q3⟩ ⟨xs, hq, hx⟩
    obtain ⟨its, rv, p, hz⟩ := I.tuple hq
    obtain ⟨f0, f1, f2, f3, f4, f5⟩ := hf it (by simp)
    have hl := rv.length
    have tup : s.heap.IsTuple a its.toArray := p
    have hT : s.TypeIs (.ref e) "enumerate" := ⟨_, q1, rfl⟩
    unfold pyNext
    refine wpAny_bind (wpAny_attempt (wpAny_callSpecial?_slot (name := Str.ofString "__next__") hT F.slot_enumerate_next (wpAny_call_entry F.slot_enumerate_next hT F.entry_enumerate_next ?_ (F.args_enumerate_next_1 _))))
    show wpAny _ _ (field (.ref e) 2 >>= _) _ _ _
    refine wpAny_bind (wpAny_field q1 rfl (x := .ref it) rfl ?_)
    refine wpAny_bind (wpAny_nextOf_tuple_end (by exact I.ok.hd hc) q2 tup (by simp; omega) fun h' x eb hx' => ?_)
    obtain ⟨o, ho, hc'⟩ := hx'
    refine wpAny_bind (wpAny_isInstance (T := "StopIteration") (b := true) ⟨o, ho, hc'⟩ isSubtype_stop ?_)
    exact wpAny_pure ⟨rfl, I.turned (t' := s.toks) (fun b o hb q => eb b o hb q) f0 f1 f3 f4 f5⟩
  self := fun A i s Q E st h => wpAny_pyIter_enum st.1.choose_spec h
def iEnumT (K : PySem.W.Frag) (ta : TA) : TI := fun σ H R => ta σ H fun vs H1 => ∃ a xs, vs = [.ref a] ∧ H1 a = some (.tup xs) ∧ R (IteT K a) H1
theorem pi_enumT {X : Cx} {e : Expr} {ta : TA} {p pos tpos : Pos} {elts : List Expr} {kk : Nat} (hg : Gl X "enumerate") (hm : X.mg "enumerate" = none) (ha : PA X [e] ta) (hs : starEach [e] X.env = [(false, eval e X.env)] := by rfl) :
    PI X (.Tuple elts kk tpos) (.Call (.Name "enumerate" p) [e] [] pos) (iEnumT X.K ta) := by
  refine ⟨fun pins s σ H R I h => ?_⟩
  refine Call_ (ld_blt I hg hm boot_enumerate (PyProof.Rows.callWith_type1 (thn (ha.run pos pins s σ H _ I h) fun us s1 ⟨vs, H1, I1, r1, q1⟩ => ?_) hs rfl))
  obtain ⟨a, xs, rfl, hq, q⟩ := q1
  cases r1 with
  | cons r rr =>
    cases rr
    cases r
    obtain ⟨its, rv, p2, hz⟩ := I1.tuple (.inl (.inl hq))
    have tup : s1.heap.IsTuple a its.toArray := p2
    have hal : a < s1.heap.objs.size := p2.lt
    refine enumT_call tup fun h' q1 q2 hk => wpAny_pyIter_enum q1 ?_
    have I2 : Inv X pins σ H1 { s1 with heap := h' } := I1.kept (t' := s1.toks) hk
    refine ⟨s1.heap.objs.size + 1, [s1.heap.objs.size + 1, s1.heap.objs.size], _, _, H1, rfl, I2, enumT_turn a (s1.heap.objs.size + 1) s1.heap.objs.size (Nat.ne_of_lt hal) (Nat.ne_of_lt (Nat.lt_succ_of_lt hal)), ⟨⟨.none, q1⟩, q2, Nat.succ_ne_self _⟩, fun b hb => ?_, q⟩
    have hle : s1.heap.objs.size ≤ b := by
      rcases List.mem_cons.mp hb with z | z
      · rw [z]; exact Nat.le_add_right _ _
      · rw [List.mem_singleton.mp z]; exact Nat.le_refl _
    exact I1.fpOk hle (I1.hok.fresh hle)
end
/-! ### min and sorted of data, nested to any depth -/
section
open PySem.Spec PyProof.Rows
open PySem.W (alike alikeAll dataLt minD AlikeAll AllAlike Sortable EachIs sorted_data min_list_data readsAll_atA alike_unique dataLe)
/-- min(xs), xs a list of data that are alike -/
def rMinD (K : PySem.W.Frag) : List V → Hp → VK → Prop := fun vs H Q => ∃ (a : Addr) (xs : List V) (d : PyData) (ds : List PyData), vs = [V.ref a] ∧ SqL K H a xs ∧ DpAll K H xs (d :: ds) ∧ AlikeAll (d :: ds) ∧ PyData.depthAll (d :: ds) ≤ 60 ∧
  ∀ (i : Nat) x, xs[i]? = some x → (d :: ds)[i]? = some (minD d ds) → Q x H
theorem minD_mem : ∀ (ds : List PyData) (d : PyData), minD d ds ∈ d :: ds
  | [], d => List.mem_cons_self
  | e :: r, d => by
    show minD (if dataLt e d = true then e else d) r ∈ _
    have h := minD_mem r (if dataLt e d = true then e else d)
    rcases List.mem_cons.mp h with z | z
    · rw [z]
      split <;> simp
    · exact List.mem_cons_of_mem _ (List.mem_cons_of_mem _ z)
theorem cr_minD {X : Cx} (hc : X.calm = true) (hu : X.A.units + 65 < cLine) : CallR X (.builtin "min") (rMinD X.K) := by
  intro pins s σ H vs us Q I r h
  obtain ⟨a, xs, d, ds, rfl, hs, hd, ha, hdp, q⟩ := h
  obtain ⟨its, rv, hl, _⟩ := I.list hs
  rw [Vals.ref1 r]
  obtain ⟨as, hr⟩ := Dp.readsAll I (d :: ds) xs its hd rv
  refine min_list_data (I.ok.hd hc) hl.isList hr ha (by omega) fun i v h' tk bs hi rd hk => ?_
  have hi2 : its[i]? = some v := by simpa using hi
  have hil : i < xs.length := by
    rw [rv.length]
    exact (List.getElem?_eq_some_iff.mp hi2).1
  obtain ⟨u, hu2, ru⟩ := rv.get (List.getElem?_eq_getElem hil)
  obtain rfl : u = v := Option.some.inj (hu2.symm.trans hi2)
  obtain ⟨cs, rc, lt, mem, _⟩ := readsAll_atA hr i u hi
  have rd' := Reads.keeps hk rc
  have e : (d :: ds).getD i .none = minD d ds := alike_unique _ _ _ _ _ (ha.1 _ mem _ (minD_mem ds d)) rd' rd
  refine ⟨_, H, I.kept (t' := tk) hk, ru, q i _ (List.getElem?_eq_getElem hil) ?_⟩
  rw [← e, List.getD_eq_getElem?_getD, List.getElem?_eq_getElem lt]
  rfl
/-- sorted(xs), xs a list of data that are alike: a new list; R: what is known of each item -/
def rSortedD {β : Type} (enc : β → PyData) (K : PySem.W.Frag) : List V → Hp → VK → Prop := fun vs H Q => ∃ (a : Addr) (xs : List V) (bs : List β) (R : V → β → Prop), vs = [V.ref a] ∧ SqL K H a xs ∧ Paired R xs bs ∧ DpAll K H xs (bs.map enc) ∧ AllAlike (bs.map enc) ∧ Sortable (bs.map enc) ∧ (∀ b ∈ bs, (enc b).depth ≤ 60) ∧
  ∀ ys p, Paired R ys (bs.mergeSort (dataLe false enc)) → H p = none → Q (.ref p) (L2.upd H p (.lst ys))
theorem each_pairs {β : Type} {R : Value → β → Prop} {F : V → β → Prop} (h : ∀ v b, R v b → ∃ x, RelV x v ∧ F x b) : ∀ {out : List Value} {bs : List β}, EachIs R out bs → ∃ ys, Vals ys out ∧ Paired F ys bs
  | _, _, .nil => ⟨[], .nil, .nil⟩
  | _, _, .cons r t => by
    obtain ⟨ys, h1, h2⟩ := each_pairs h t
    obtain ⟨x, h3, h4⟩ := h _ _ r
    exact ⟨x :: ys, .cons h3 h1, .cons h4 h2⟩
theorem each_of {β : Type} {K : PySem.W.Frag} {H : Hp} {enc : β → PyData} {R : V → β → Prop} {R' : Value → β → Prop} : ∀ {xs : List V} {us : List Value} {bs : List β}, Vals xs us → Paired R xs bs → DpAll K H xs (bs.map enc) → (∀ x u b, RelV x u → R x b → Dp K H x (enc b) → R' u b) → EachIs R' us bs
  | _, _, [], rv, hr, hd, _ => by
    cases hd
    cases rv
    exact .nil
  | _, _, b :: bs, rv, hr, hd, h => by
    cases hd with
    | cons q t =>
      cases rv with
      | cons r rt =>
        cases hr with
        | cons p pt => exact .cons (h _ _ _ r p q) (each_of rt pt t h)
theorem cr_sortedD {β : Type} {X : Cx} (enc : β → PyData) (hu : X.A.units + 65 < cLine) : CallR X (.builtin "sorted") (rSortedD enc X.K) := by
  intro pins s σ H vs us Q I r h
  obtain ⟨a, xs, bs, R, rfl, hs, hR, hd, hal, hk, hdp, q⟩ := h
  obtain ⟨its, rv, hl, hz⟩ := I.list hs
  rw [Vals.ref1 r]
  have e1 : EachIs (fun v b => ∃ x, RelV x v ∧ R x b) its bs := each_of rv hR hd fun x u b hr hx _ => ⟨x, hr, hx⟩
  have e2 : EachIs (fun v b => ∃ as, Reads s.heap v (enc b) as) its bs := each_of rv hR hd fun x u b hr _ hd => Dp.reads I _ _ _ hd hr
  have hl2 := e1.length
  refine sorted_data hl.isList e1 e2 hal hk (by rw [← hl2, ← rv.length]; exact hz) (fun b hb => by have := hdp b hb; omega) fun out ho eo => ?_
  obtain ⟨ys, h1, h2⟩ := each_pairs (F := R) (fun v b ⟨x, a1, a2⟩ => ⟨x, a1, a2⟩) eo
  obtain ⟨ep, he'⟩ := PyProof.Rows.sortedAll_at s.heap its out.toArray
  have hlen : ys.length ≤ sizeLine := by
    rw [h1.length, ho, ← hl2, ← rv.length]
    exact hz
  exact ⟨.ref _, L2.upd H (s.heap.objs.size + 1) (.lst ys), I.laid (t' := s.toks) (fun _ _ => PyProof.Rows.sortedAll_old) (Nat.le_succ _) ⟨hlen, out, ep, h1, he'⟩, rfl, q ys _ h2 (I.hok.fresh (Nat.le_succ _))⟩
end
/-! ### xs.count(x), x data of any depth -/
section
open PySem.Spec PyProof.Rows
def rCntD (K : PySem.W.Frag) : V → List V → Hp → VK → Prop := fun x xs H Q => ∃ (a : Addr) (ys : List V) (y : V) (d : PyData) (ds : List PyData), x = V.ref a ∧ xs = [y] ∧ SqL K H a ys ∧ DpAll K H ys ds ∧ Dp K H y d ∧ PyData.plainAll ds = true ∧ d.plain = true ∧ d.depth ≤ 60 ∧ Q (.int ((ds.countP fun z => PyData.eqv z d : Nat) : Int)) H
theorem mt_countD {X : Cx} (hu : X.A.units + 65 < cLine) : MtR X "list.count" (rCntD X.K) := by
  intro pins s σ H x xs v us Q I rx rxs h
  obtain ⟨a, ys, y, d, ds, rfl, rfl, hl, hds, hd, p1, p2, hdp, q⟩ := h
  cases rx
  cases rxs with
  | cons ry rt =>
    rename_i uy ut
    cases rt
    obtain ⟨bs, r1⟩ := Dp.reads I d y uy hd ry
    obtain ⟨its, rv, hL, _⟩ := I.list hl
    obtain ⟨as, hr⟩ := Dp.readsAll I ds ys its hds rv
    refine PySem.SeqAt.count_list_data hL.isList hr r1 p1 p2 (by omega) ⟨.int _, H, I.tok _, ⟨_, rfl⟩, q⟩
end
/-! ### max(xs, default=d), xs a list of ints -/
section
open PySem.Spec PyProof.Rows
open PySem.W (alike alikeAll dataLt maxD AlikeAll max_list_default)
def rMaxDef (K : PySem.W.Frag) : List V → List V → Hp → VK → Prop := fun vs zs H Q => ∃ (a : Addr) (ns : List Int) (d : V), vs = [V.ref a] ∧ zs = [d] ∧ SqL K H a (ns.map V.int) ∧ (ns = [] → Q d H) ∧ ∀ m, m ∈ ns → (∀ y, y ∈ ns → y ≤ m) → Q (.int m) H
def maxI (x : Int) (xs : List Int) : Int := xs.foldl (fun a y => if a < y then y else a) x
theorem maxI_spec : ∀ (xs : List Int) (x : Int), maxI x xs ∈ x :: xs ∧ ∀ y ∈ x :: xs, y ≤ maxI x xs
  | [], x => ⟨List.mem_cons_self, fun y hy => by rw [List.mem_singleton.mp hy]; exact Int.le_refl _⟩
  | z :: r, x => by
    obtain ⟨h1, h2⟩ := maxI_spec r (if x < z then z else x)
    have e : maxI x (z :: r) = maxI (if x < z then z else x) r := rfl
    rw [e]
    have h3 := h2 _ List.mem_cons_self
    refine ⟨?_, fun y hy => ?_⟩
    · rcases List.mem_cons.mp h1 with q | q
      · rw [q]
        split <;> simp
      · exact List.mem_cons_of_mem _ (List.mem_cons_of_mem _ q)
    · rcases List.mem_cons.mp hy with q | q
      · rw [q]
        split at h3 <;> rename_i c
        · rw [if_pos c]; omega
        · rw [if_neg c]; omega
      · rcases List.mem_cons.mp q with q | q
        · rw [q]
          split at h3 <;> rename_i c
          · rw [if_pos c]; omega
          · rw [if_neg c]; omega
        · exact h2 y (List.mem_cons_of_mem _ q)
theorem maxD_int : ∀ (xs : List Int) (x : Int), maxD (.int x) (xs.map PyData.int) = .int (maxI x xs)
  | [], x => rfl
  | y :: ys, x => by
    show maxD (if dataLt (.int x) (.int y) = true then .int y else .int x) (ys.map PyData.int) = .int (maxI (if x < y then y else x) ys)
    rw [PySem.W.dataLt_int]
    by_cases c : x < y
    · rw [if_pos (decide_eq_true c), if_pos c]
      exact maxD_int ys y
    · rw [if_neg (by rw [decide_eq_false c]; exact Bool.false_ne_true), if_neg c]
      exact maxD_int ys x
theorem ints_dp {K : PySem.W.Frag} {H : Hp} : ∀ ns : List Int, DpAll K H (ns.map V.int) (ns.map PyData.int)
  | [] => .nil
  | n :: ns => .cons (.int _) (ints_dp ns)
theorem ints_alike (ns : List Int) : AlikeAll (ns.map PyData.int) := by
  refine ⟨fun x hx y hy => ?_, fun x hx => ?_⟩
  · obtain ⟨s, _, rfl⟩ := List.mem_map.mp hx
    obtain ⟨t, _, rfl⟩ := List.mem_map.mp hy
    simp [alike]
  · obtain ⟨s, _, rfl⟩ := List.mem_map.mp hx
    intro e
    cases e
theorem ints_depth : ∀ ns : List Int, PyData.depthAll (ns.map PyData.int) = 0
  | [] => by simp [PyData.depthAll]
  | n :: ns => by simp [PyData.depthAll, PyData.depth, ints_depth ns]
theorem cr_maxDef {X : Cx} (hc : X.calm = true) (hu : X.A.units + 65 < cLine) : CallRK X (.builtin "max") [Str.ofString "default"] (rMaxDef X.K) := by
  intro pins s σ H vs zs us ws Q I r rz h
  obtain ⟨a, ns, d, rfl, rfl, hs, q0, q⟩ := h
  obtain ⟨its, rv, hl, _⟩ := I.list hs
  rw [Vals.ref1 r]
  cases rz with
  | cons rd rt =>
    cases rt
    rename_i dv
    obtain ⟨as, hr⟩ := Dp.readsAll I (ns.map PyData.int) (ns.map V.int) its (ints_dp ns) rv
    refine max_list_default (I.ok.hd hc) hl.isList hr (ints_alike ns) (by rw [ints_depth]; omega) (fun e h' tk hk => ?_) fun y ys i v h' tk bs e hi rd' hk => ?_
    · exact ⟨d, H, I.kept (t' := tk) hk, rd, q0 (List.map_eq_nil_iff.mp e)⟩
    · cases ns with
      | nil => cases e
      | cons n ns =>
        rw [List.map_cons] at e
        injection e with e1 e2
        subst e1
        subst e2
        rw [maxD_int] at rd'
        obtain ⟨m1, m2⟩ := maxI_spec ns n
        have hi2 : its[i]? = some v := by simpa using hi
        have hil : i < (List.map V.int (n :: ns)).length := by
          rw [rv.length]
          exact (List.getElem?_eq_some_iff.mp hi2).1
        obtain ⟨u, hu2, ru⟩ := rv.get (List.getElem?_eq_getElem hil)
        obtain rfl : u = v := Option.some.inj (hu2.symm.trans hi2)
        cases rd'
        exact ⟨.int _, H, I.kept (t' := tk) hk, ⟨_, rfl⟩, q _ m1 m2⟩
end
/-! ### d.values(), list(d.values()) of a dict whose keys are tuples -/
section
open PySem.Spec PyProof.Rows
/-- the view d.values() at p -/
def valsO (p d : Addr) : HO := .ext fun h => h.IsValuesView p d
theorem valsO_ok {P : Program} {w : World} {H : Hp} {h : Heap} {p d : Addr} (e : h.get? p = some { cls := .type "dict_values", data := .fields #[.ref d] }) : ObjOk P w H h p (valsO p d) :=
  ⟨⟨_, e, rfl, rfl⟩, ⟨_, e⟩, fun h1 h2 x k => let ⟨o, ho, r⟩ := x; ⟨o, k o ho, r⟩⟩
variable {X : Cx}
def rValuesT : V → List V → Hp → VK → Prop := fun x xs H Q => ∃ (a : Addr) (kvs : List (List L2.Key × V)), x = .ref a ∧ xs = [] ∧ H a = some (.dT kvs) ∧ ∀ p, H p = none → Q (.ref p) (L2.upd H p (valsO p a))
theorem mt_valuesT : MtR X "dict.values" rValuesT := by
  intro pins s σ H x xs v us Q I rx rxs h
  obtain ⟨a, kvs, rfl, rfl, ha, q⟩ := h
  cases rx
  cases rxs
  obtain ⟨z, hd, xs', rel, o, es, ep, ho, hx, hdat, _⟩ := dt_of I.hok ha
  have raw : s.heap.DictRaw a es ep := ⟨o, ho, hx, hdat⟩
  refine call_meetsIn PySem.F.slot_dict_values raw.typeIs PySem.F.entry_dict_values (PySem.F.args_dict_values_1 _) (PySem.meets_dict_values_raw a hd) ⟨⟨es, ep, raw⟩, ?_⟩
  have hf : H s.heap.objs.size = none := I.hok.fresh (Nat.le_refl _)
  exact ⟨.ref s.heap.objs.size, L2.upd H s.heap.objs.size (valsO s.heap.objs.size a), I.laid (t' := s.toks) (fun b u e => Heap.get?_push_of_some _ e) (Nat.le_refl _) (valsO_ok (Heap.get?_push_size _ rfl)), rfl, q _ hf⟩
theorem kt_vals {H : Hp} : ∀ {kvs : List (List L2.Key × V)} {xs : List (List L2.Key × Addr × Value)}, KT H kvs xs → Vals (kvs.map (·.2)) (xs.map fun x => x.2.2)
  | _, _, .nil => .nil
  | _, _, .cons h t => .cons h.2.2 (kt_vals t)
theorem call_list_valuesT (hc : X.calm = true) : CallR X (.type "list") (fun xs H Q => ∃ (v d : Addr) (kvs : List (List L2.Key × V)), xs = [V.ref v] ∧ H v = some (valsO v d) ∧ H d = some (.dT kvs) ∧ ∀ p, H p = none → Q (.ref p) (L2.upd H p (.lst (kvs.map (·.2))))) := by
  intro pins s σ H xs us Q I r h
  obtain ⟨v, d, kvs, rfl, hv, hd, q⟩ := h
  obtain ⟨u, rfl, rx⟩ := r.one
  cases rx
  obtain ⟨z, hs, ks, pr, o, es, ep, ho, hx, hdt, he, hn⟩ := dt_of I.hok hd
  have hvv : s.heap.IsValuesView v d := (show ObjOk X.prog X.w H s.heap v (valsO v d) from I.hok v _ hv).1
  have raw : s.heap.DictRaw d es ep := ⟨o, ho, hx, hdt⟩
  have l1 : es.size = ks.length := size_of_entries he
  have l2 : kvs.length = ks.length := Paired.length pr
  refine PySem.W.kdl_call PySem.KdlSrc.rawValues (I.ok.hd hc) ⟨hvv, raw⟩ (by omega) fun h' tk acc' c' kp e it => ?_
  have ea : acc'.toList = ks.map fun x => x.2.2 := by
    have hl : acc'.toList.length = ks.length := by rw [Array.length_toList, it.1]; exact l1
    apply List.ext_getElem?
    intro j
    rw [List.getElem?_map]
    cases hj : acc'.toList[j]? with
    | none =>
      have h1 := List.getElem?_eq_none_iff.mp hj
      rw [List.getElem?_eq_none (by omega)]
      all_goals rfl
    | some v =>
      obtain ⟨hi, hv⟩ := it.2 j v (by rw [← Array.getElem?_toList]; exact hj)
      have qe := entry_at he j
      rw [Array.getElem?_eq_getElem hi] at qe
      cases hb : ks[j]? with
      | none =>
        rw [hb] at qe
        exact nomatch (show some es[j] = none from qe)
      | some b =>
        rw [hb] at qe
        have e2 : es[j] = entryOfKey (tupleKind (mixKind X.prog X.w)) b := Option.some.inj qe
        rw [hv, e2]
        all_goals rfl
  have rv : Vals (kvs.map (·.2)) acc'.toList := by
    rw [ea]
    exact kt_vals pr
  have hz : (kvs.map (·.2)).length ≤ sizeLine := by rw [List.length_map]; omega
  refine ⟨.ref s.heap.objs.size, _, I.laid (t' := tk) (o := .lst (kvs.map (·.2))) kp (Nat.le_refl _) ?_, rfl, q _ (I.hok.fresh (Nat.le_refl _))⟩
  exact ⟨hz, acc'.toList, c', rv, by rw [Array.toArray_toList]; exact e⟩
end
/-! ### xs * k of a tuple, k 0 or 1 -/
section
open PySem.Spec PyProof.Rows
theorem tuple_mul1 (l : Addr) (items : Array Value) (n : Nat) (dd : Option Addr) (sl : Array (Option Value)) (u : Tok) :
    Meets (Builtin.«tuple.__mul__» ⟨[.ref l, .int 1 u], []⟩) (fun _ R s => s.heap.get? l = some { cls := .type "tuple", dict := dd, data := .seq items n, slots := sl } ∧ R (.ok (.ret (.ref l))) s) :=
  .of_wp fun prog w A R s h => by
    obtain ⟨hp, g, d, tk, os⟩ := s
    obtain ⟨hl, h⟩ := h
    have f1 := AutoSeq1.idx_int
    have c1 : (items.isEmpty || (1 : Int) == 1) = true := by rw [Bool.or_eq_true]; exact .inr rfl
    wp_walk using wpAny_loadPart' hl
    repeat (first
      | (refine wpAny_ite_false (decide_eq_false (by decide)) ?_; wp_walk using wpAny_loadPart' hl)
      | (refine wpAny_ite_true (decide_eq_true c1) ?_; wp_walk using wpAny_loadPart' hl))
    exact ⟨_, rfl, h⟩
theorem tuple_mul0 (l : Addr) (items : Array Value) (n : Nat) (dd : Option Addr) (sl : Array (Option Value)) (u : Tok) (hi : items.isEmpty = false) :
    Meets (Builtin.«tuple.__mul__» ⟨[.ref l, .int 0 u], []⟩) (fun _ R s => s.heap.get? l = some { cls := .type "tuple", dict := dd, data := .seq items n, slots := sl } ∧ R (.ok (.ret (.ref s.heap.objs.size))) { s with heap := s.heap.push { cls := Value.type "tuple", data := Data.seq #[] }, toks := s.toks }) :=
  .of_wp fun prog w A R s h => by
    obtain ⟨hp, g, d, tk, os⟩ := s
    obtain ⟨hl, h⟩ := h
    have f1 := AutoSeq1.idx_int
    have c1 : ¬ (items.isEmpty || (0 : Int) == 1) = true := by rw [hi]; decide
    have c2 : (decide ((0 : Int) ≤ 0) || items.isEmpty) = true := by rw [hi]; decide
    wp_walk using wpAny_loadPart' hl
    repeat (first
      | (refine wpAny_ite_false (decide_eq_false (by decide)) ?_; wp_walk using wpAny_loadPart' hl)
      | (refine wpAny_ite_false (decide_eq_false c1) ?_; wp_walk using wpAny_loadPart' hl)
      | (refine wpAny_ite_true (decide_eq_true c2) ?_; wp_walk using wpAny_loadPart' hl))
    exact ⟨_, rfl, h⟩
def rRep01 (K : PySem.W.Frag) : R2 := fun x y H Q => ∃ l k xs, x = .ref l ∧ y = .int k ∧ SqT K H l xs ∧ xs ≠ [] ∧ (k = 0 ∨ k = 1) ∧ (k = 1 → Q (.ref l) H) ∧ (k = 0 → ∀ p, H p = none → Q (.ref p) (L2.upd H p (.tup [])))
theorem op_rep01 {X : Cx} : OpR X (binaryOp .Mult) (rRep01 X.K) := by
  intro pins s σ H x y v u Q I rx ry h
  obtain ⟨l, k, xs, rfl, rfl, hT, hne, hk, q1, q0⟩ := h
  cases rx
  obtain ⟨t, rfl⟩ := ry
  obtain ⟨its, r, ⟨⟨cls, dd, data, sl⟩, ho, hc, n, hd⟩, hs⟩ := I.tuple hT
  simp only at hc hd
  subst hc hd
  have hn : its ≠ [] := fun e => hne (by
    have := r.length
    rw [e] at this
    exact List.eq_nil_of_length_eq_zero this)
  have hi : its.toArray.isEmpty = false := by
    cases its with
    | nil => exact absurd rfl hn
    | cons a b => rfl
  rcases hk with rfl | rfl
  · refine wpAny_binaryOp_repeat_ref (T := "tuple") (U := "int") (by decide) ⟨_, ho, rfl⟩ (fun s' => typeIs_int s' 0 t) noFill_tuple_mul PySem.F.fills_int_mul PySem.F.slot_int_rmul repeat_tuple PySem.F.slot_int_index.lookup
      (call_meets PySem.F.slot_int_rmul (typeIs_int s 0 t) PySem.F.entry_int_rmul (PySem.F.args_int_rmul_2 _ _) (int_rmul_tuple 0 t l its.toArray n dd sl)
        ⟨ho, rfl, ⟨_, ho, rfl⟩, call_meets PySem.F.slot_tuple_mul ⟨_, ho, rfl⟩ PySem.F.entry_tuple_mul (PySem.F.args_tuple_mul_2 _ _) (tuple_mul0 l its.toArray n dd sl t hi) ⟨ho, ?_⟩⟩)
    refine ⟨.ref s.heap.objs.size, _, I.laid (t' := s.toks) (o := .tup []) (fun b ob q => Heap.get?_push_of_some _ q) (Nat.le_refl _) ?_, rfl, q0 rfl _ (I.hok.fresh (Nat.le_refl _))⟩
    exact ⟨Nat.zero_le _, [], .nil, IsTup.new _ _⟩
  · refine wpAny_binaryOp_repeat_ref (T := "tuple") (U := "int") (by decide) ⟨_, ho, rfl⟩ (fun s' => typeIs_int s' 1 t) noFill_tuple_mul PySem.F.fills_int_mul PySem.F.slot_int_rmul repeat_tuple PySem.F.slot_int_index.lookup
      (call_meets PySem.F.slot_int_rmul (typeIs_int s 1 t) PySem.F.entry_int_rmul (PySem.F.args_int_rmul_2 _ _) (int_rmul_tuple 1 t l its.toArray n dd sl)
        ⟨ho, rfl, ⟨_, ho, rfl⟩, call_meets PySem.F.slot_tuple_mul ⟨_, ho, rfl⟩ PySem.F.entry_tuple_mul (PySem.F.args_tuple_mul_2 _ _) (tuple_mul1 l its.toArray n dd sl t) ⟨ho, ?_⟩⟩)
    exact ⟨.ref l, H, I, rfl, q1 rfl⟩
end
/-! ### a comprehension over two ranges -/
theorem lc2_rng {lo : Int} {n : Nat} {g : TG} {tt tt1 : TT} {wi1 : TI} {g1 : TG} {te : TE} {vs vs1 : List Nat} {σ : L2.St} {H1 : Hp} {D : Addr} {Qd : Hp → Prop} (Pv : Nat → Hp → Prop) (h0 : Pv 0 (upd H1 D (.lst [])))
    (hs : ∀ i H, i < n → Pv i H → g (.int (lo + i)) (wipe σ vs) H fun σ2 H2 => wipe σ2 vs = wipe σ vs ∧ tt σ2 H2 fun b H3 =>
      if b = true then wi1 σ2 H3 fun J1 H4 => ∃ W1 : Nat → Nat → Hp → Prop, (∃ m, W1 0 m H4) ∧ ∀ j k H, W1 j k H →
          (J1.stop j H ∧ Pv (i + 1) H) ∨ (J1.go j H ∧ ∃ Nx1 : Hp → Prop, (∀ H', Nx1 H' → ∃ k', k' < k ∧ W1 (j + 1) k' H') ∧ ∀ x H', J1.yld j H x H' → g1 x (wipe σ2 vs1) H' fun σ3 H5 => wipe σ3 vs1 = wipe σ2 vs1 ∧ tt1 σ3 H5 fun b H6 =>
            if b = true then te σ3 H6 fun y H7 => ∃ acc, H7 D = some (.lst acc) ∧ acc.length < sizeLine ∧ Nx1 (upd H7 D (.lst (acc ++ [y]))) else Nx1 H6)
      else Pv (i + 1) H3) (hd : ∀ H, Pv n H → Qd H) :
    ∃ W : Nat → Nat → Hp → Prop, (∃ m, W 0 m (upd H1 D (.lst []))) ∧ ∀ i m H, W i m H →
      ((Itr lo n).stop i H ∧ Qd H) ∨ ((Itr lo n).go i H ∧ ∃ Nx : Hp → Prop, (∀ H', Nx H' → ∃ m', m' < m ∧ W (i + 1) m' H') ∧ ∀ x H', (Itr lo n).yld i H x H' → g x (wipe σ vs) H' fun σ2 H2 => wipe σ2 vs = wipe σ vs ∧ tt σ2 H2 fun b H3 =>
        if b = true then wi1 σ2 H3 fun J1 H4 => ∃ W1 : Nat → Nat → Hp → Prop, (∃ m, W1 0 m H4) ∧ ∀ j k H, W1 j k H →
          (J1.stop j H ∧ Nx H) ∨ (J1.go j H ∧ ∃ Nx1 : Hp → Prop, (∀ H', Nx1 H' → ∃ k', k' < k ∧ W1 (j + 1) k' H') ∧ ∀ x H', J1.yld j H x H' → g1 x (wipe σ2 vs1) H' fun σ3 H5 => wipe σ3 vs1 = wipe σ2 vs1 ∧ tt1 σ3 H5 fun b H6 =>
            if b = true then te σ3 H6 fun y H7 => ∃ acc, H7 D = some (.lst acc) ∧ acc.length < sizeLine ∧ Nx1 (upd H7 D (.lst (acc ++ [y]))) else Nx1 H6)
        else Nx H3) := by
  refine ⟨fun i m H => m = n - i ∧ i ≤ n ∧ Pv i H, ⟨n, by simp, Nat.zero_le _, h0⟩, ?_⟩
  rintro i m H ⟨rfl, hi, p⟩
  by_cases hlt : i < n
  · refine .inr ⟨hlt, Pv (i + 1), fun H' p' => ⟨n - (i + 1), by omega, rfl, hlt, p'⟩, fun x H' y => ?_⟩
    obtain ⟨e, y⟩ := y
    subst e y
    exact hs i _ hlt p
  · have e : i = n := by omega
    subst e
    exact .inl ⟨Nat.le_refl _, hd H p⟩
theorem in_rng {lo : Int} {n : Nat} {g1 : TG} {tt1 : TT} {te : TE} {vs1 : List Nat} {σ2 : L2.St} {H4 : Hp} {D : Addr} {Nx : Hp → Prop} (Pv : Nat → Hp → Prop) (h0 : Pv 0 H4)
    (hs : ∀ i H, i < n → Pv i H → g1 (.int (lo + i)) (wipe σ2 vs1) H fun σ3 H5 => wipe σ3 vs1 = wipe σ2 vs1 ∧ tt1 σ3 H5 fun b H6 =>
      if b = true then te σ3 H6 fun y H7 => ∃ acc, H7 D = some (.lst acc) ∧ acc.length < sizeLine ∧ Pv (i + 1) (upd H7 D (.lst (acc ++ [y]))) else Pv (i + 1) H6) (hd : ∀ H, Pv n H → Nx H) :
    ∃ W1 : Nat → Nat → Hp → Prop, (∃ m, W1 0 m H4) ∧ ∀ j k H, W1 j k H →
      ((Itr lo n).stop j H ∧ Nx H) ∨ ((Itr lo n).go j H ∧ ∃ Nx1 : Hp → Prop, (∀ H', Nx1 H' → ∃ k', k' < k ∧ W1 (j + 1) k' H') ∧ ∀ x H', (Itr lo n).yld j H x H' → g1 x (wipe σ2 vs1) H' fun σ3 H5 => wipe σ3 vs1 = wipe σ2 vs1 ∧ tt1 σ3 H5 fun b H6 =>
        if b = true then te σ3 H6 fun y H7 => ∃ acc, H7 D = some (.lst acc) ∧ acc.length < sizeLine ∧ Nx1 (upd H7 D (.lst (acc ++ [y]))) else Nx1 H6) := by
  refine ⟨fun i m H => m = n - i ∧ i ≤ n ∧ Pv i H, ⟨n, by simp, Nat.zero_le _, h0⟩, ?_⟩
  rintro i m H ⟨rfl, hi, p⟩
  by_cases hlt : i < n
  · refine .inr ⟨hlt, Pv (i + 1), fun H' p' => ⟨n - (i + 1), by omega, rfl, hlt, p'⟩, fun x H' y => ?_⟩
    obtain ⟨e, y⟩ := y
    subst e y
    exact hs i _ hlt p
  · have e : i = n := by omega
    subst e
    exact .inl ⟨Nat.le_refl _, hd H p⟩
/-! ### plain mathematics: orders, the first valid one, ways -/
structure Od where
  s : Nat
  t : Nat
  f : Nat
  n : Nat
  e : Nat
def Od.vs (o : Od) : List V := [.int o.s, .int o.t, .int o.f, .int o.n, .int o.e]
structure OdOk (p h : Nat) (o : Od) : Prop where
  s : o.s < h
  t : o.t < h
  st : o.s ≠ o.t
  f : o.f < p
  n1 : 1 ≤ o.n
  n : o.n ≤ p
  e1 : 1 ≤ o.e
  e : o.e ≤ 9
/-- the order o is valid on the day d of a net of period p -/
def onDay (p : Nat) (o : Od) (d : Int) : Bool := decide ((d - (o.f : Int)) % (p : Int) < (o.n : Int))
def hit (p : Nat) (s : Nat) (d : Int) (o : Od) : Bool := decide (o.s = s) && onDay p o d
/-- the number of the order that is followed -/
def idx (p : Nat) (os : List Od) (s : Nat) (d : Int) : Option Nat := os.findIdx? (hit p s d)
def optV : Option Nat → V
  | none => .non
  | some k => .int k
theorem optV_flat (o : Option Nat) : flatV (optV o) = true := by cases o <;> rfl
theorem idx_mod (p : Nat) (os : List Od) (s : Nat) (d : Int) : idx p os s (d % (p : Int)) = idx p os s d := by
  unfold idx
  congr 1
  funext o
  unfold hit onDay
  rw [Int.emod_sub_emod]
theorem idx_nat (p : Nat) (os : List Od) (s d : Nat) : idx p os s ((d % p : Nat) : Int) = idx p os s (d : Int) := by
  rw [Int.natCast_emod]
  exact idx_mod p os s d
theorem idx_later (p : Nat) (os : List Od) (s d k : Nat) : idx p os s ((d + p * k : Nat) : Int) = idx p os s (d : Int) := by
  rw [← idx_nat p os s (d + p * k), Nat.add_mul_mod_self_left, idx_nat]
theorem idx_lt {p : Nat} {os : List Od} {s k : Nat} {d : Int} (h : idx p os s d = some k) : k < os.length := by
  unfold idx at h
  exact (List.findIdx?_eq_some_iff_getElem.mp h).1
theorem idx_take_succ {p : Nat} {os : List Od} {s k : Nat} {d : Int} {o : Od} (h : os[k]? = some o) :
    idx p (os.take (k + 1)) s d = (idx p (os.take k) s d).or (if hit p s d o = true then some k else none) := by
  obtain ⟨hk, ho⟩ := List.getElem?_eq_some_iff.mp h
  unfold idx
  rw [List.take_add_one, h, Option.toList_some, List.findIdx?_append, List.findIdx?_singleton]
  have hl : (os.take k).length = k := by rw [List.length_take]; omega
  rw [hl]
  cases hh : hit p s d o with
  | true => simp
  | false => simp
/-- which days of the period are among the first l days of an order -/
def among (p f l d : Nat) : Prop := ∃ j, j < l ∧ (f + j) % p = d
theorem among_zero (p f d : Nat) : ¬ among p f 0 d := fun ⟨_, h, _⟩ => absurd h (Nat.not_lt_zero _)
theorem among_succ {p f l d : Nat} : among p f (l + 1) d ↔ among p f l d ∨ (f + l) % p = d := by
  constructor
  · rintro ⟨j, hj, e⟩
    by_cases z : j = l
    · subst z
      exact .inr e
    · exact .inl ⟨j, by omega, e⟩
  · rintro (⟨j, hj, e⟩ | e)
    · exact ⟨j, by omega, e⟩
    · exact ⟨l, by omega, e⟩
theorem among_on {p h d : Nat} {o : Od} (k : OdOk p h o) (hd : d < p) : among p o.f o.n d ↔ onDay p o (d : Int) = true := by
  unfold onDay
  rw [decide_eq_true_iff]
  have kf := k.f
  have kn := k.n
  have key : ((d : Int) - (o.f : Int)) % (p : Int) = if o.f ≤ d then (d : Int) - o.f else (d : Int) - o.f + p := by
    split
    · exact Int.emod_eq_of_lt (by omega) (by omega)
    · rw [← Int.add_emod_right]
      exact Int.emod_eq_of_lt (by omega) (by omega)
  rw [key]
  constructor
  · rintro ⟨j, hj, e⟩
    by_cases q : o.f + j < p
    · rw [Nat.mod_eq_of_lt q] at e
      rw [if_pos (by omega)]
      omega
    · have e2 : (o.f + j) % p = o.f + j - p := by
        rw [Nat.mod_eq_sub_mod (by omega), Nat.mod_eq_of_lt (by omega)]
      rw [e2] at e
      split
      · omega
      · omega
  · intro q
    by_cases c : o.f ≤ d
    · rw [if_pos c] at q
      exact ⟨d - o.f, by omega, by rw [show o.f + (d - o.f) = d by omega]; exact Nat.mod_eq_of_lt hd⟩
    · rw [if_neg c] at q
      refine ⟨d + p - o.f, by omega, ?_⟩
      rw [show o.f + (d + p - o.f) = d + p by omega, Nat.add_mod_right]
      exact Nat.mod_eq_of_lt hd
/-- one hop of a letter at a house on a day -/
def hop (p : Nat) (os : List Od) (st : Nat × Nat) : Option (Nat × Nat) :=
  match idx p os st.1 (st.2 : Int) with
  | none => none
  | some k => (os[k]?).map fun o => (o.t, st.2 + o.e)
/-- the first n stops of a letter -/
def way (p : Nat) (os : List Od) : Nat → Nat × Nat → List (Nat × Nat)
  | 0, _ => []
  | n + 1, st => st :: match hop p os st with
    | none => []
    | some st' => way p os n st'
/-! ### heaps -/
/-- all but what stands at d is as it was -/
def But (d : Addr) (H H' : Hp) : Prop := ∀ b o, b ≠ d → H b = some o → H' b = some o
theorem But.refl {d : Addr} {H : Hp} : But d H H := fun _ _ _ e => e
theorem But.trans {d : Addr} {H H1 H2 : Hp} (a : But d H H1) (b : But d H1 H2) : But d H H2 := fun c o n e => b c o n (a c o n e)
theorem But.of {d : Addr} {H H' : Hp} (s : Same H H') : But d H H' := fun b o _ e => s b o e
theorem But.upd {d : Addr} {H : Hp} {o : HO} : But d H (upd H d o) := fun b u n e => by rw [upd_ne n]; exact e
theorem same_upd {H : Hp} {p : Addr} {o : HO} (h : H p = none) : Same H (L2.upd H p o) := fun b x e => by
  rw [upd_ne (ne_of_none e h)]
  exact e
theorem same_updN {H H' : Hp} {p : Addr} {o : HO} (s : Same H H') (h : H p = none) : Same H (L2.upd H' p o) := fun b x e => by
  rw [upd_ne (ne_of_none e h)]
  exact s b x e
theorem But.new {d p : Addr} {H : Hp} {o : HO} (h : H p = none) : But d H (L2.upd H p o) := But.of (same_upd h)
theorem But.free {d p : Addr} {H H' : Hp} {o : HO} (s : But d H H') (hd : H' d = some o) (h : H' p = none) : H p = none := by
  cases q : H p with
  | none => rfl
  | some u =>
    by_cases e : p = d
    · rw [e, hd] at h
      cases h
    · rw [s p u e q] at h
      cases h
/-- the tail of ints of the source of numbers -/
def DL (s c : Nat) (r : List Nat) : List V := .int s :: .int c :: r.map fun (n : Nat) => V.int (n : Int)
def DAt (H : Hp) (d : Addr) : Prop := ∃ s c r, s < 2147483647 ∧ r.length ≤ 63 ∧ H d = some (.lst (DL s c r))
theorem DAt.but {H H' : Hp} {d : Addr} (h : DAt H d) (s : Same H H') : DAt H' d := by
  obtain ⟨a, b, c, h1, h2, h3⟩ := h
  exact ⟨a, b, c, h1, h2, s _ _ h3⟩
theorem DAt.som {H : Hp} {d : Addr} (h : DAt H d) : ∃ o, H d = some o := by
  obtain ⟨a, b, c, h1, h2, h3⟩ := h
  exact ⟨_, h3⟩
theorem dl0 {s c : Nat} {r : List Nat} : atI (DL s c r) 0 = some (.int s) := atI_nat (j := 0) rfl
theorem dl1 {s c : Nat} {r : List Nat} : atI (DL s c r) 1 = some (.int c) := atI_nat (j := 1) rfl
theorem ix_at {n j : Nat} (hj : j < n) : ixN n (j : Int) = some j := by
  unfold ixN
  rw [if_pos (by omega), if_pos (by omega)]
  simp
theorem seqIx {n j : Nat} (hj : j < n) : seqIndex? (j : Int) n = some j := by
  unfold seqIndex?
  have h1 : ¬ (j : Int) < 0 := by omega
  have h2 : (decide (0 ≤ (j : Int)) && decide ((j : Int) < (n : Int))) = true := by
    rw [decide_eq_true (show 0 ≤ (j : Int) by omega), decide_eq_true (show (j : Int) < (n : Int) by omega)]
    rfl
  simp only [if_neg h1]
  rw [if_pos h2]
  simp
theorem fmod_nat (a b : Nat) : (a : Int).fmod (b : Int) = ((a % b : Nat) : Int) := by
  rw [Int.fmod_eq_emod_of_nonneg _ (by omega)]
  rfl
theorem fdiv_nat (a b : Nat) : (a : Int).fdiv (b : Int) = ((a / b : Nat) : Int) := by
  rw [Int.fdiv_eq_ediv_of_nonneg _ (by omega)]
  rfl
theorem dlx {s c j : Nat} {r : List Nat} (h : j < 2) : ixN (DL s c r).length (j : Int) = some j := ix_at (by
  show j < (List.map _ r).length + 1 + 1
  omega)
theorem dllen {s c : Nat} {r : List Nat} : (DL s c r).length = r.length + 2 := by
  show (List.map _ r).length + 1 + 1 = _
  rw [List.length_map]
/-- the built-ins that no name of the program hides -/
structure Blt (mg : Str → Option Value) : Prop where
  len : mg "len" = none
  range : mg "range" = none
  isi : mg "isinstance" = none
  int : mg "int" = none
  bool : mg "bool" = none
  str : mg "str" = none
  tuple : mg "tuple" = none
  list : mg "list" = none
  all : mg "all" = none
  abs : mg "abs" = none
  enum : mg "enumerate" = none
/-- a def of the top that keeps its promise -/
def Df (P : Program) (w : World) (K : PySem.W.Frag) (mg : Str → Option Value) (base : Heap) (x : Str) (k : Nat) (ps : List Str) (sp : Sp) : Prop :=
  ∃ (f : Addr) (fd : FuncData), mg x = some (.ref f) ∧ PySem.W.keepIn K (.ref f) = true ∧ Binds K fd ps [] ∧ FnOk P w K mg base CX0 k f fd ps sp
/-- a list of numbers -/
def nints (l : List Nat) : List V := l.map fun (n : Nat) => V.int (n : Int)
/-- filtering a range step by step -/
theorem filter_range_succ' {n : Nat} {f : Nat → Bool} : (List.range (n + 1)).filter f = (List.range n).filter f ++ (if f n = true then [n] else []) := by
  rw [List.range_succ, List.filter_append]
  congr 1
  by_cases c : f n = true
  · rw [if_pos c, List.filter_cons_of_pos c]
    rfl
  · rw [if_neg c, List.filter_cons_of_neg c]
    rfl
abbrev s_l_below : Stmt := top 50
abbrev N_l_below : List Str := ["_law_d", "_law_limit", "_law_result"]
abbrev P_l_below : List Str := ["_law_d", "_law_limit"]
theorem sc_l_below : FnScope N_l_below P_l_below (defScope s_l_below) := ⟨rfl, rfl, rfl, by decide +kernel, rfl, by decide +kernel, by decide +kernel⟩
/-! ### the next number -/
def spBelow : Sp := fun vs H Q _ => ∃ (d : Addr) (n : Nat), vs = [.ref d, .int n] ∧ DAt H d ∧ 0 < n ∧ n < 1152921504606846976 ∧
  ∀ H' (r : Nat), r < n → But d H H' → DAt H' d → Q (.int r) H'
section
variable {P : Program} {w : World} {K : PySem.W.Frag} {mg : Str → Option Value} {base : Heap}
theorem ok_below {f : Addr} {fd : FuncData} (F : Fun K "_law_below" "_law_below" s_l_below f fd) (ml : mg "len" = none) : FnOk P w K mg base CX0 2 f fd P_l_below spBelow := by
  refine F.ok sc_l_below (fun vs H Q E h => ?_) (fun cdv A outer s H vs Q E hr h => ?_)
  · obtain ⟨d, n, rfl, _⟩ := h
    rfl
  · obtain ⟨d, n, rfl, ⟨s0, c, r, hs, hl, hd⟩, n0, n1, q⟩ := h
    refine ⟨_, C8.pss_cut (ps_if (PW.pt (pw_and (pt_cmpR op_eq (pe_ix ix_list (pv 0) pe_int (fun _ _ => rfl)) pe_int (nomark _)) (pw_and1 (pt_cmpR op_gt (pe_callB call_len_seq (by rfl) ml PySem.boot_len (pa_cons (pv 0) pa_nil)) pe_int (nomark _)))))
        (pss_one (ps_asg (pe_bm PySem.F.plainAttrs_list PySem.F.slot_list_pop PySem.F.type_list_pop mt_popAt (pv 0) (pa_cons pe_int pa_nil)) (pg_sub (pv 0) pe_int set_list))) pss_nil)
      (pss_cons (ps_if (pt_cmpR op_gt (pe_ix ix_list (pv 0) pe_int (fun _ _ => rfl)) pe_int (nomark _))
        (pss_cons (ps_set (i := 2) sc_l_below.nd rfl (.inl rfl) (pe_op op_modN (pe_ix ix_list (pv 0) pe_int (fun _ _ => rfl)) (pv 1)))
          (pss_cons (ps_asg (pe_op op_fdivW (pe_ix ix_list (pv 0) pe_int (fun _ _ => rfl)) (pv 1)) (pg_sub (pv 0) pe_int set_list)) (pss_one (ps_ret (pv 2))))) pss_nil)
      (pss_cons (ps_asg (pe_op op_modN (pe_op op_add (pe_op op_mul (pe_ix ix_list (pv 0) pe_int (fun _ _ => rfl)) pe_int) pe_int) pe_int) (pg_sub (pv 0) pe_int set_list))
        (pss_one (ps_ret (pe_op op_modN (pe_op op_fdivN (pe_ix ix_list (pv 0) pe_int (fun _ _ => rfl)) pe_int) (pv 1)))))), ?_⟩
    -- if d[1] == 0 and len(d) > 2: d[1] = d.pop(2)
    have rest : ∀ (s1 c1 : Nat) (r1 : List Nat) (H1 : Hp), s1 < 2147483647 → r1.length ≤ 63 → But d H H1 → H1 d = some (.lst (DL s1 c1 r1)) →
        (fun σ' H' => σ' = [some (V.ref d), some (V.int n), none] ∧ But d H H' ∧ DAt H' d : L2.St → Hp → Prop) [some (V.ref d), some (V.int n), none] H1 := fun s1 c1 r1 H1 a1 a2 a3 a4 => ⟨rfl, a3, s1, c1, r1, a1, a2, a4⟩
    refine ⟨fun σ' H' => σ' = [some (V.ref d), some (V.int n), none] ∧ But d H H' ∧ DAt H' d, ⟨_, rfl, d, _, 1, _, rfl, rfl, SqL.of hd, dl1, rfl, _, rfl, ?_⟩, ?_⟩
    · refine ite2 (fun e => ?_) (fun _ => iteF (rest s0 c r H hs hl .refl hd))
      refine ⟨_, rfl, d, _, rfl, .inl (SqL.of hd), _, _, rfl, rfl, _, rfl, ?_⟩
      refine ite2 (fun e2 => ?_) (fun _ => rest s0 c r H hs hl .refl hd)
      have e3 : 2 < ((DL s0 c r).length : Int) := of_decide_eq_true e2
      rw [dllen] at e3
      cases r with
      | nil => exact absurd e3 (by decide)
      | cons m r2 =>
        have hl2 : r2.length + 1 ≤ 63 := hl
        refine ⟨_, rfl, .inl ⟨rfl, _, SqL.of hd⟩, d, _, 2, 2, .int m, rfl, rfl, hd, by decide, by decide, ?_, rfl, ?_⟩
        · exact seqIx (n := (DL s0 c (m :: r2)).length) (j := 2) (by rw [dllen, List.length_cons]; omega)
        · refine ⟨_, rfl, d, _, 1, 1, rfl, rfl, upd_same, ?_, ?_⟩
          · exact dlx (s := s0) (c := c) (r := r2) (j := 1) (by decide)
          · refine rest s0 m r2 _ hs (by omega) (fun b o nb e => ?_) upd_same
            rw [upd_ne nb, upd_ne nb]
            exact e
    · rintro σ' H1 ⟨rfl, b1, s1, c1, r1, hs1, hl1, hd1⟩
      -- if d[1] > 0
      refine ⟨_, rfl, d, _, 1, _, rfl, rfl, SqL.of hd1, dl1, _, _, rfl, rfl, _, rfl, ite2 (fun e => ?_) (fun _ => ?_)⟩
      · refine ⟨_, rfl, d, _, 1, _, rfl, rfl, SqL.of hd1, dl1, _, rfl, _, _, rfl, rfl, by omega, ?_⟩
        refine ⟨_, rfl, d, _, 1, _, rfl, rfl, SqL.of hd1, dl1, _, rfl, _, _, rfl, rfl, wide_div (b := 60) (by omega) (by show n < 2 ^ 60; exact n1) (by decide) (by decide), ?_⟩
        refine ⟨_, rfl, d, _, 1, 1, rfl, rfl, hd1, dlx (j := 1) (by decide), ?_⟩
        refine ⟨_, rfl, ?_⟩
        show Q (V.int ((c1 : Int).fmod (n : Int))) (L2.upd H1 d (.lst (DL s1 c1 r1 |>.set 1 (V.int ((c1 / n : Nat) : Int)))))
        rw [fmod_nat]
        exact q _ _ (Nat.mod_lt _ n0) (b1.trans .upd) ⟨s1, c1 / n, r1, hs1, hl1, upd_same⟩
      · refine ⟨_, rfl, d, _, 0, _, rfl, rfl, SqL.of hd1, dl0, _, _, rfl, rfl, .inl ⟨by omega, by omega⟩, _, _, rfl, rfl, _, _, rfl, rfl, (by show (2147483647 : Int) ≠ 0; decide), ?_⟩
        refine ⟨_, rfl, d, _, 0, 0, rfl, rfl, hd1, dlx (j := 0) (by decide), ?_⟩
        have e5 : ((s1 : Int) * 48271 + 11).fmod 2147483647 = (((s1 * 48271 + 11) % 2147483647 : Nat) : Int) := fmod_nat (s1 * 48271 + 11) 2147483647
        have e6 : ((DL s1 c1 r1).set 0 (V.int (((s1 : Int) * 48271 + 11).fmod 2147483647))) = DL ((s1 * 48271 + 11) % 2147483647) c1 r1 := by
          rw [e5]
          rfl
        have hd2 : (L2.upd H1 d (.lst ((DL s1 c1 r1).set 0 (V.int (((s1 : Int) * 48271 + 11).fmod 2147483647))))) d = some (.lst (DL ((s1 * 48271 + 11) % 2147483647) c1 r1)) := by
          rw [upd_same, e6]
        refine ⟨_, rfl, d, _, 0, _, rfl, rfl, SqL.of hd2, dl0, _, _, rfl, rfl, ⟨by decide, by decide⟩, _, rfl, _, _, rfl, rfl, by omega, ?_⟩
        show Q (V.int (Int.fmod (Int.fdiv (((s1 * 48271 + 11) % 2147483647 : Nat) : Int) ((64 : Nat) : Int)) (n : Int))) _
        rw [fdiv_nat, fmod_nat]
        exact q _ _ (Nat.mod_lt _ n0) (b1.trans .upd) ⟨_, c1, r1, Nat.mod_lt _ (by decide), hl1, hd2⟩
end
abbrev s_l_random : Stmt := top 49
abbrev N_l_random : List Str := ["_law_script", "_law_salt", "_law_seed", "_law_cell"]
abbrev P_l_random : List Str := ["_law_script", "_law_salt"]
theorem sc_l_random : FnScope N_l_random P_l_random (defScope s_l_random) := ⟨rfl, rfl, rfl, by decide +kernel, rfl, by decide +kernel, by decide +kernel⟩
/-! ### the source of numbers -/
def spRandom (K : PySem.W.Frag) : Sp := fun vs H Q _ => ∃ (a : Addr) (ns : List Int) (salt : Nat), vs = [.ref a, .int salt] ∧ SqL K H a (ns.map V.int) ∧ ns.length ≤ 63 ∧ salt < 2147483647 ∧
  ∀ H' d, Same H H' → H d = none → DAt H' d → Q (.ref d) H'
section
variable {P : Program} {w : World} {K : PySem.W.Frag} {mg : Str → Option Value} {base : Heap}
theorem ok_random {f : Addr} {fd : FuncData} (F : Fun K "_law_random" "_law_random" s_l_random f fd) (B : Blt mg) : FnOk P w K mg base CX0 2 f fd P_l_random (spRandom K) := by
  refine F.ok sc_l_random (fun vs H Q E h => ?_) (fun cdv A outer s H vs Q E hr h => ?_)
  · obtain ⟨a, ns, salt, rfl, _⟩ := h
    rfl
  · obtain ⟨a, ns, salt, rfl, hS, hlen, hsalt, q⟩ := h
    refine ⟨_, pss_cons (ps_set (i := 2) sc_l_random.nd rfl (.inl rfl) (pv 1))
      (pss_cons (ps_for PassesOwn.never rfl (pi_list (pv 0)) (pg_name (i := 3) sc_l_random.nd rfl (.inl rfl))
        (pss_one (ps_set (i := 2) sc_l_random.nd rfl (.inl rfl) (pe_op op_modN (pe_op op_add (pe_op op_mul (pv 2) pe_int) (pe_callB call_abs (by rfl) B.abs PyProof.Rows.boot_abs (pa_cons (pv 3) pa_nil))) pe_int))))
      (pss_one (ps_ret (pe_op op_cat (pe_lst (pa_cons (pv 2) (pa_cons pe_int pa_nil)))
        (pe_lc (own := [("_law_cell", 3)]) (g := gName 3) (by rfl) sc_l_random.nd (pi_list (pv 0)) (blkOk_by (N := N_l_random) (sc := defScope s_l_random) (by decide +kernel))
          (fun _ _ _ _ _ => pg_name (i := 3) sc_l_random.nd rfl (.inl rfl)) (fun _ _ _ _ _ => pts_one (pt_cmpR op_ge (pv 3) (pe_op op_pow pe_int pe_int) (nomark _))) (fun _ _ _ _ _ => pv 3)))))), ?_⟩
    refine ⟨_, rfl, .ref a, rfl, a, rfl, ⟨_, hS⟩, for_list (K := K) (a := a) (xs := ns.map V.int) (fun i σ H' => ∃ (z : Nat) (v : Option V), z < 2147483647 ∧ σ = [some (.ref a), some (.int salt), some (.int z), v] ∧ H' = H)
      ⟨salt, none, hsalt, rfl, rfl⟩ (fun i σ H' _ ⟨_, _, _, _, e⟩ => by rw [e]; exact hS) ?_ ?_⟩
    · rintro i y σ H' hi ⟨z, v, hz, rfl, rfl⟩
      obtain ⟨u, rfl⟩ : ∃ u, y = V.int u := by
        rw [List.getElem?_map] at hi
        cases e : ns[i]? with
        | none => rw [e] at hi; cases hi
        | some u => rw [e] at hi; exact ⟨u, (Option.some.inj hi).symm⟩
      refine ⟨_, rfl, _, _, rfl, rfl, .inl ⟨by omega, by omega⟩, _, rfl, _, rfl, _, _, rfl, rfl, _, _, rfl, rfl, (by show (2147483647 : Int) ≠ 0; decide), ?_⟩
      have e1 : (z : Int) * 31 + (if u < 0 then -u else u) = ((z * 31 + u.natAbs : Nat) : Int) := by
        split <;> omega
      refine ⟨(z * 31 + u.natAbs) % 2147483647, some (.int u), Nat.mod_lt _ (by decide), ?_, rfl⟩
      show [some (V.ref a), some (V.int salt), some (V.int (Int.fmod ((z : Int) * 31 + (if u < 0 then -u else u)) 2147483647)), some (V.int u)] = _
      rw [e1, show ((2147483647 : Int)) = ((2147483647 : Nat) : Int) from rfl, fmod_nat]
    · rintro σ H' ⟨z, v, hz, rfl, rfl⟩
      refine ⟨_, rfl, (by show 2 ≤ sizeLine; decide), fun l nl => ?_⟩
      have sl := same_upd (o := HO.lst [V.int z, V.int 0]) nl
      refine ⟨.ref a, rfl, a, rfl, ⟨_, sl.seq hS⟩, fun D nD => ?_⟩
      have nDl : l ≠ D := fun e => by
        rw [← e, upd_same] at nD
        cases nD
      refine lc_list (K := K) (a := a) (xs := ns.map V.int) (fun i H1 => ∃ r : List Nat, r.length ≤ i ∧ H1 = L2.upd (L2.upd H' l (.lst [V.int z, V.int 0])) D (.lst (r.map fun (n : Nat) => V.int (n : Int))))
        ⟨[], Nat.le_refl _, rfl⟩ (fun i H1 _ ⟨r, _, e⟩ => by rw [e]; exact (same_upd nD).seq (sl.seq hS)) ?_ ?_
      · rintro i x H1 hi ⟨r, hr1, rfl⟩
        obtain ⟨u, rfl⟩ : ∃ u, x = V.int u := by
          rw [List.getElem?_map] at hi
          cases e : ns[i]? with
          | none => rw [e] at hi; cases hi
          | some u => rw [e] at hi; exact ⟨u, (Option.some.inj hi).symm⟩
        have hi63 : i < ns.length := by
          have q := (List.getElem?_eq_some_iff.mp hi).1
          rw [List.length_map] at q
          exact q
        refine ⟨rfl, _, rfl, _, _, rfl, rfl, ⟨by decide, by decide, by decide⟩, _, _, rfl, rfl, _, rfl, ite2 (fun e => ?_) (fun _ => ⟨r, by omega, rfl⟩)⟩
        have e1 : (10 : Int) ^ (18 : Int).toNat ≤ u := of_decide_eq_true e
        have e2 : (0 : Int) ≤ u := Int.le_trans (by decide) e1
        refine ⟨_, rfl, _, upd_same, ?_, r ++ [u.toNat], ?_, ?_⟩
        · rw [List.length_map]
          exact small1000 (by omega)
        · rw [List.length_append, List.length_singleton]
          omega
        · rw [upd_upd, List.map_append]
          show L2.upd _ D (.lst (_ ++ [V.int u])) = L2.upd _ D (.lst (_ ++ [V.int (u.toNat : Int)]))
          rw [Int.toNat_of_nonneg e2]
      · rintro H1 ⟨r, hr1, rfl⟩
        rw [List.length_map] at hr1
        refine ⟨l, D, _, _, rfl, rfl, (upd_ne nDl).trans upd_same, upd_same, ?_, fun d nd => ?_⟩
        · rw [List.length_map]
          exact Nat.le_of_lt (small1000 (by show 2 + r.length ≤ 1000; omega))
        · refine q _ d (sl.trans ((same_upd nD).trans (same_upd nd))) (sl.free ((same_upd nD).free nd)) ⟨z, 0, r, hz, by omega, upd_same⟩
end
abbrev s_l_order : Stmt := top 51
abbrev N_l_order : List Str := ["_law_d", "_law_period", "_law_houses", "_law_source", "_law_delay", "_law_target"]
abbrev P_l_order : List Str := ["_law_d", "_law_period", "_law_houses"]
theorem sc_l_order : FnScope N_l_order P_l_order (defScope s_l_order) := ⟨rfl, rfl, rfl, by decide +kernel, rfl, by decide +kernel, by decide +kernel⟩
/-! ### an order made -/
def spOrder : Sp := fun vs H Q _ => ∃ (d : Addr) (p h : Nat), vs = [.ref d, .int p, .int h] ∧ DAt H d ∧ 0 < p ∧ p ≤ 30 ∧ 2 ≤ h ∧ h ≤ 10 ∧
  ∀ H' t o, OdOk p h o → But d H H' → DAt H' d → H t = none → H' t = some (.tup o.vs) → Q (.ref t) H'
section
variable {P : Program} {w : World} {K : PySem.W.Frag} {mg : Str → Option Value} {base : Heap}
theorem two_at {x y : V} {b : Nat} (hb : b < 2) : ∃ v, atI [x, y] (b : Int) = some v ∧ (v = x ∨ v = y) := by
  match b, hb with
  | 0, _ => exact ⟨x, atI_nat (j := 0) rfl, .inl rfl⟩
  | 1, _ => exact ⟨y, atI_nat (j := 1) rfl, .inr rfl⟩
theorem ok_order {f : Addr} {fd : FuncData} (F : Fun K "_law_order" "_law_order" s_l_order f fd) (DB : Df P w K mg base "_law_below" 2 P_l_below spBelow) : FnOk P w K mg base CX0 3 f fd P_l_order spOrder := by
  obtain ⟨fB, fdB, gB, kB, bB, GB⟩ := DB
  refine F.ok sc_l_order (fun vs H Q E h => ?_) (fun cdv A outer s H vs Q E hr h => ?_)
  · obtain ⟨d, p, h, rfl, _⟩ := h
    rfl
  · obtain ⟨d, p, h, rfl, hD, p0, p30, h2, h10, q⟩ := h
    refine ⟨_, pss_cons (ps_par (by rfl) sc_l_order.nd (i := 3) (j := 4) rfl rfl (by decide) rfl rfl
        (pa_cons (pe_call GB hr (by rfl) gB kB bB .nil pass0 (pa_cons (pv 0) (pa_cons (pv 2) pa_nil)))
          (pa_cons (pe_op op_add pe_int (pe_call GB hr (by rfl) gB kB bB .nil pass0 (pa_cons (pv 0) (pa_cons
            (pe_ix ix_list (pe_lst (pa_cons pe_int (pa_cons pe_int pa_nil))) (pe_call GB hr (by rfl) gB kB bB .nil pass0 (pa_cons (pv 0) (pa_cons pe_int pa_nil))) (fun _ _ => rfl)) pa_nil)))) pa_nil)) (by rfl))
      (pss_cons (ps_set (i := 5) sc_l_order.nd rfl (.inl rfl) (pe_op op_modN (pe_op op_add (pe_op op_add (pv 3) pe_int) (pe_call GB hr (by rfl) gB kB bB .nil pass0 (pa_cons (pv 0) (pa_cons (pe_op op_sub (pv 2) pe_int) pa_nil)))) (pv 2)))
      (pss_one (ps_ret (pe_tup (pa_cons (pv 3) (pa_cons (pv 5) (pa_cons (pe_call GB hr (by rfl) gB kB bB .nil pass0 (pa_cons (pv 0) (pa_cons (pv 1) pa_nil)))
        (pa_cons (pe_op op_add pe_int (pe_call GB hr (by rfl) gB kB bB .nil pass0 (pa_cons (pv 0) (pa_cons (pv 1) pa_nil)))) (pa_cons (pv 4) pa_nil))))))))), ?_⟩
    refine ⟨_, rfl, _, rfl, d, h, rfl, hD, by omega, by omega, fun H1 src hsrc b1 D1 => ?_⟩
    refine ⟨_, rfl, (by show 2 ≤ sizeLine; decide), fun l nl => ?_⟩
    have D1' := D1.but (same_upd (o := HO.lst [V.int 3, V.int 9]) nl)
    have ndl : d ≠ l := ne_of_none D1.som.choose_spec nl
    refine ⟨_, rfl, d, 2, rfl, D1', by decide, by decide, fun H2 b hb b2 D2 => ?_⟩
    have hl2 : H2 l = some (.lst [V.int 3, V.int 9]) := b2 l _ ndl.symm upd_same
    obtain ⟨m, hm, hm39⟩ : ∃ m : Nat, atI [V.int 3, V.int 9] (b : Int) = some (V.int m) ∧ (m = 3 ∨ m = 9) := by
      obtain ⟨v, h1, h2⟩ := two_at (x := V.int 3) (y := V.int 9) hb
      rcases h2 with h2 | h2
      · exact ⟨3, by rw [h1, h2]; rfl, .inl rfl⟩
      · exact ⟨9, by rw [h1, h2]; rfl, .inr rfl⟩
    refine ⟨l, _, _, _, rfl, rfl, SqL.of hl2, hm, ?_⟩
    refine ⟨d, m, rfl, D2, by omega, by omega, fun H3 dl hdl b3 D3 => ?_⟩
    refine ⟨_, _, rfl, rfl, _, _, rfl, ?_⟩
    refine ⟨_, rfl, _, _, rfl, rfl, _, rfl, _, rfl, _, _, rfl, rfl, d, h - 1, ?_, D3, by omega, by omega, fun H4 tt htt b4 D4 => ?_⟩
    · show [V.ref d, V.int ((h : Int) - 1)] = _
      rw [show (h : Int) - 1 = ((h - 1 : Nat) : Int) by omega]
    refine ⟨_, _, rfl, rfl, _, rfl, _, _, rfl, rfl, by omega, ?_⟩
    refine ⟨_, rfl, _, rfl, _, rfl, _, rfl, d, p, rfl, D4, by omega, by omega, fun H5 ff hff b5 D5 => ?_⟩
    refine ⟨_, rfl, _, rfl, d, p, rfl, D5, by omega, by omega, fun H6 nn hnn b6 D6 => ?_⟩
    refine ⟨_, _, rfl, rfl, _, rfl, (by show 5 ≤ sizeLine; decide), fun t nt => ?_⟩
    have e1 : ((src : Int) + 1 + (tt : Int)).fmod (h : Int) = (((src + 1 + tt) % h : Nat) : Int) := fmod_nat (src + 1 + tt) h
    have hb : But d H H6 := b1.trans ((But.new nl).trans (b2.trans (b3.trans (b4.trans (b5.trans b6)))))
    have hd6 := D6.som.choose_spec
    have ok : OdOk p h ⟨src, (src + 1 + tt) % h, ff, 1 + nn, 1 + dl⟩ := by
      refine ⟨hsrc, Nat.mod_lt _ (by omega), ?_, hff, by show 1 ≤ 1 + nn; omega, by show 1 + nn ≤ p; omega, by show 1 ≤ 1 + dl; omega, by show 1 + dl ≤ 9; omega⟩
      show src ≠ (src + 1 + tt) % h
      by_cases z : src + 1 + tt < h
      · rw [Nat.mod_eq_of_lt z]
        omega
      · rw [Nat.mod_eq_sub_mod (by omega), Nat.mod_eq_of_lt (by omega)]
        omega
    refine q _ t ⟨src, (src + 1 + tt) % h, ff, 1 + nn, 1 + dl⟩ ok (hb.trans (.new nt)) (D6.but (same_upd nt)) (hb.free hd6 nt) ?_
    rw [upd_same]
    show some (HO.tup [V.int src, V.int (((src : Int) + 1 + (tt : Int)).fmod (h : Int)), V.int ff, V.int (1 + (nn : Int)), V.int (1 + (dl : Int))]) = some (HO.tup [V.int src, V.int (((src + 1 + tt) % h : Nat) : Int), V.int ff, V.int ((1 + nn : Nat) : Int), V.int ((1 + dl : Nat) : Int)])
    rw [e1, Int.natCast_add 1 nn, Int.natCast_add 1 dl]
    rfl
end
/-! ### the parts of a net -/
def OrdAt (H : Hp) (v : V) (o : Od) : Prop := ∃ t, v = .ref t ∧ H t = some (.tup o.vs)
def TupKeep (H H' : Hp) : Prop := ∀ b xs, H b = some (.tup xs) → H' b = some (.tup xs)
theorem tk_of {H H' : Hp} (s : Same H H') : TupKeep H H' := fun b _ e => s b _ e
theorem But.tk {d : Addr} {H H' : Hp} (s : But d H H') (hd : DAt H d) : TupKeep H H' := fun b xs e => by
  obtain ⟨_, _, _, _, _, h3⟩ := hd
  exact s b _ (ne_of e h3 (by intro q; cases q)) e
theorem TupKeep.lst {H : Hp} {a : Addr} {xs : List V} {o : HO} (h : H a = some (.lst xs)) : TupKeep H (L2.upd H a o) := fun b ys e => by
  rw [upd_ne (ne_of e h (by intro q; cases q))]
  exact e
theorem But.updN {d p : Addr} {H H' : Hp} {o : HO} (s : But d H H') (h : H p = none) : But d H (L2.upd H' p o) := fun b u n e => by
  rw [upd_ne (ne_of_none e h)]
  exact s b u n e
theorem DAt.updN {d p : Addr} {H : Hp} {o : HO} (h : DAt H d) (n : d ≠ p) : DAt (L2.upd H p o) d := by
  obtain ⟨a, b, c, h1, h2, h3⟩ := h
  exact ⟨a, b, c, h1, h2, by rw [upd_ne n]; exact h3⟩
theorem TupKeep.trans {H H1 H2 : Hp} (a : TupKeep H H1) (b : TupKeep H1 H2) : TupKeep H H2 := fun c o e => b c o (a c o e)
theorem OrdAt.keep {H H' : Hp} {v : V} {o : Od} (k : TupKeep H H') (h : OrdAt H v o) : OrdAt H' v o := by
  obtain ⟨t, e, ht⟩ := h
  exact ⟨t, e, k _ _ ht⟩
theorem OrdsAt.keep {H H' : Hp} {ts : List V} {os : List Od} (k : TupKeep H H') (h : Paired (OrdAt H) ts os) : Paired (OrdAt H') ts os :=
  Paired.mapP h fun _ _ q => q.keep k
theorem Paired.snoc {α β : Type} {F : α → β → Prop} {x : α} {y : β} : ∀ {l1 : List α} {l2 : List β}, Paired F l1 l2 → F x y → Paired F (l1 ++ [x]) (l2 ++ [y])
  | _, _, .nil, q => .cons q .nil
  | _, _, .cons r t, q => .cons r (Paired.snoc t q)
theorem Paired.get? {α β : Type} {F : α → β → Prop} : ∀ {l1 : List α} {l2 : List β} {i : Nat} {y : β}, Paired F l1 l2 → l2[i]? = some y → ∃ x, l1[i]? = some x ∧ F x y
  | _, _, _, _, .nil, e => by simp at e
  | _, _, 0, _, .cons r _, e => by
    simp at e
    subst e
    exact ⟨_, rfl, r⟩
  | _, _, i + 1, y, .cons _ t, e => by
    obtain ⟨u, h1, h2⟩ := Paired.get? (i := i) (y := y) t (by simpa using e)
    exact ⟨u, by simpa using h1, h2⟩
structure NetOk (p h : Nat) (os : List Od) : Prop where
  p1 : 1 ≤ p
  p30 : p ≤ 30
  h1 : 1 ≤ h
  h10 : h ≤ 10
  len : os.length ≤ 20
  ok : ∀ o ∈ os, OdOk p h o
/-- the orders' tuple -/
def OrdsTup (H : Hp) (t : Addr) (os : List Od) : Prop := ∃ ts, H t = some (.tup ts) ∧ Paired (OrdAt H) ts os
theorem OrdsTup.keep {H H' : Hp} {t : Addr} {os : List Od} (k : TupKeep H H') (h : OrdsTup H t os) : OrdsTup H' t os := by
  obtain ⟨ts, h1, h2⟩ := h
  exact ⟨ts, k _ _ h1, OrdsAt.keep k h2⟩
def PartsAt (H : Hp) (a : Addr) (p h : Nat) (os : List Od) : Prop := ∃ t, H a = some (.tup [.int p, .int h, .ref t]) ∧ OrdsTup H t os
theorem PartsAt.keep {H H' : Hp} {a : Addr} {p h : Nat} {os : List Od} (k : TupKeep H H') (q : PartsAt H a p h os) : PartsAt H' a p h os := by
  obtain ⟨t, h1, h2⟩ := q
  exact ⟨t, k _ _ h1, h2.keep k⟩
abbrev s_l_parts : Stmt := top 52
abbrev N_l_parts : List Str := ["_law_d", "_law_most", "_law_period", "_law_houses", "_law_orders", "_law_k"]
abbrev P_l_parts : List Str := ["_law_d", "_law_most"]
theorem sc_l_parts : FnScope N_l_parts P_l_parts (defScope s_l_parts) := ⟨rfl, rfl, rfl, by decide +kernel, rfl, by decide +kernel, by decide +kernel⟩
def spParts : Sp := fun vs H Q _ => ∃ (d : Addr) (m : Nat), vs = [.ref d, .int m] ∧ DAt H d ∧ m ≤ 20 ∧
  ∀ H' a p h os, NetOk p h os → os.length ≤ m → But d H H' → DAt H' d → H a = none → PartsAt H' a p h os → Q (.ref a) H'
section
variable {P : Program} {w : World} {K : PySem.W.Frag} {mg : Str → Option Value} {base : Heap}
theorem three_at {x y z : V} {b : Nat} (hb : b < 3) : ∃ v, atI [x, y, z] (b : Int) = some v ∧ (v = x ∨ v = y ∨ v = z) := by
  match b, hb with
  | 0, _ => exact ⟨x, atI_nat (j := 0) rfl, .inl rfl⟩
  | 1, _ => exact ⟨y, atI_nat (j := 1) rfl, .inr (.inl rfl)⟩
  | 2, _ => exact ⟨z, atI_nat (j := 2) rfl, .inr (.inr rfl)⟩
theorem ok_parts {f : Addr} {fd : FuncData} (F : Fun K "_law_parts" "_law_parts" s_l_parts f fd) (B : Blt mg) (DB : Df P w K mg base "_law_below" 2 P_l_below spBelow) (DO : Df P w K mg base "_law_order" 3 P_l_order spOrder) : FnOk P w K mg base CX0 4 f fd P_l_parts spParts := by
  obtain ⟨fB, fdB, gB, kB, bB, GB⟩ := DB
  obtain ⟨fO, fdO, gO, kO, bO, GO⟩ := DO
  refine F.ok sc_l_parts (fun vs H Q E h => ?_) (fun cdv A outer s H vs Q E hr h => ?_)
  · obtain ⟨d, m, rfl, _⟩ := h
    rfl
  · obtain ⟨d, m, rfl, hD, hm, q⟩ := h
    have hr1 : Room 2 _ := hr.mono (by decide)
    refine ⟨_, pss_cons (ps_set (i := 2) sc_l_parts.nd rfl (.inr rfl) (pe_ix ix_list
        (pe_lst (pa_cons (pe_op op_add pe_int (pe_call GB hr1 (by rfl) gB kB bB .nil pass0 (pa_cons (pv 0) (pa_cons pe_int pa_nil))))
          (pa_cons (pe_op op_add pe_int (pe_call GB hr1 (by rfl) gB kB bB .nil pass0 (pa_cons (pv 0) (pa_cons pe_int pa_nil))))
          (pa_cons (pe_op op_add pe_int (pe_call GB hr1 (by rfl) gB kB bB .nil pass0 (pa_cons (pv 0) (pa_cons pe_int pa_nil)))) pa_nil))))
        (pe_call GB hr1 (by rfl) gB kB bB .nil pass0 (pa_cons (pv 0) (pa_cons pe_int pa_nil))) (fun _ _ => rfl)))
      (pss_cons (ps_set (i := 3) sc_l_parts.nd rfl (.inr rfl) (pe_ix ix_list
        (pe_lst (pa_cons (pe_op op_add pe_int (pe_call GB hr1 (by rfl) gB kB bB .nil pass0 (pa_cons (pv 0) (pa_cons pe_int pa_nil))))
          (pa_cons (pe_op op_add pe_int (pe_call GB hr1 (by rfl) gB kB bB .nil pass0 (pa_cons (pv 0) (pa_cons pe_int pa_nil)))) pa_nil)))
        (pe_call GB hr1 (by rfl) gB kB bB .nil pass0 (pa_cons (pv 0) (pa_cons pe_int pa_nil))) (fun _ _ => rfl)))
      (pss_cons (ps_set (i := 4) sc_l_parts.nd rfl (.inl rfl) (pe_lst pa_nil))
      (C8.pss_cut (ps_if (pt_cmpR op_gt (pv 3) pe_int (nomark _))
        (pss_one (ps_setLc (i := 4) (own := [("_law_k", 5)]) (g := gName 5) (tt := tYes) (by rfl) sc_l_parts.nd rfl rfl (sw_true rfl rfl rfl (by decide +kernel))
          (pi_range1 rfl B.range (pa_cons (pe_call GB hr1 (by rfl) gB kB bB .nil pass0 (pa_cons (pv 0) (pa_cons (pe_op op_add (pv 1) pe_int) pa_nil))) pa_nil))
          (blkOk_by (N := N_l_parts) (sc := defScope s_l_parts) (by decide +kernel)) (fun _ _ _ _ _ => pg_name (i := 5) sc_l_parts.nd rfl (.inl rfl)) (fun _ _ _ _ _ => pts_nil)
          (fun _ _ _ _ _ => pe_call GO hr (by rfl) gO kO bO .nil pass0 (pa_cons (pv 0) (pa_cons (pv 2) (pa_cons (pv 3) pa_nil)))))) pss_nil)
      (pss_one (ps_ret (pe_tup (pa_cons (pv 2) (pa_cons (pv 3) (pa_cons (pe_callTy call_tuple_of (by rfl) B.tuple (by decide +kernel) (pa_cons (pv 4) pa_nil)) pa_nil))))))))), ?_⟩
    -- period
    refine ⟨_, rfl, d, 5, rfl, hD, by decide, by decide, fun H1 x1 hx1 b1 D1 => ?_⟩
    refine ⟨_, _, rfl, rfl, _, rfl, d, 9, rfl, D1, by decide, by decide, fun H2 x2 hx2 b2 D2 => ?_⟩
    refine ⟨_, _, rfl, rfl, _, rfl, d, 30, rfl, D2, by decide, by decide, fun H3 x3 hx3 b3 D3 => ?_⟩
    refine ⟨_, _, rfl, rfl, (by show 3 ≤ sizeLine; decide), fun l nl => ?_⟩
    have D3' := D3.but (same_upd (o := HO.lst [V.int (1 + (x1 : Int)), V.int (1 + (x2 : Int)), V.int (1 + (x3 : Int))]) nl)
    have ndl : d ≠ l := ne_of_none D3.som.choose_spec nl
    refine ⟨_, rfl, d, 3, rfl, D3', by decide, by decide, fun H4 x4 hx4 b4 D4 => ?_⟩
    have hl4 := b4 l _ ndl.symm upd_same
    obtain ⟨p, hp, p1, p30⟩ : ∃ p : Nat, atI [V.int (1 + (x1 : Int)), V.int (1 + (x2 : Int)), V.int (1 + (x3 : Int))] (x4 : Int) = some (V.int p) ∧ 1 ≤ p ∧ p ≤ 30 := by
      obtain ⟨v, h1, h2⟩ := three_at (x := V.int (1 + (x1 : Int))) (y := V.int (1 + (x2 : Int))) (z := V.int (1 + (x3 : Int))) hx4
      rcases h2 with h2 | h2 | h2
      · exact ⟨1 + x1, by rw [h1, h2, Int.natCast_add]; rfl, by omega, by omega⟩
      · exact ⟨1 + x2, by rw [h1, h2, Int.natCast_add]; rfl, by omega, by omega⟩
      · exact ⟨1 + x3, by rw [h1, h2, Int.natCast_add]; rfl, by omega, by omega⟩
    refine ⟨l, _, _, _, rfl, rfl, SqL.of hl4, hp, ?_⟩
    have B4 : But d H H4 := b1.trans (b2.trans (b3.trans ((But.new nl).trans b4)))
    -- houses
    refine ⟨_, rfl, d, 3, rfl, D4, by decide, by decide, fun H5 y1 hy1 b5 D5 => ?_⟩
    refine ⟨_, _, rfl, rfl, _, rfl, d, 10, rfl, D5, by decide, by decide, fun H6 y2 hy2 b6 D6 => ?_⟩
    refine ⟨_, _, rfl, rfl, (by show 2 ≤ sizeLine; decide), fun k nk => ?_⟩
    have D6' := D6.but (same_upd (o := HO.lst [V.int (2 + (y1 : Int)), V.int (1 + (y2 : Int))]) nk)
    have ndk : d ≠ k := ne_of_none D6.som.choose_spec nk
    refine ⟨_, rfl, d, 2, rfl, D6', by decide, by decide, fun H7 y3 hy3 b7 D7 => ?_⟩
    have hk7 := b7 k _ ndk.symm upd_same
    obtain ⟨h, hh, h1, h10⟩ : ∃ h : Nat, atI [V.int (2 + (y1 : Int)), V.int (1 + (y2 : Int))] (y3 : Int) = some (V.int h) ∧ 1 ≤ h ∧ h ≤ 10 := by
      obtain ⟨v, q1, q2⟩ := two_at (x := V.int (2 + (y1 : Int))) (y := V.int (1 + (y2 : Int))) hy3
      rcases q2 with q2 | q2
      · exact ⟨2 + y1, by rw [q1, q2, Int.natCast_add]; rfl, by omega, by omega⟩
      · exact ⟨1 + y2, by rw [q1, q2, Int.natCast_add]; rfl, by omega, by omega⟩
    refine ⟨k, _, _, _, rfl, rfl, SqL.of hk7, hh, ?_⟩
    have B7 : But d H H7 := B4.trans (b5.trans (b6.trans ((But.new nk).trans b7)))
    -- orders = []
    refine ⟨Nat.zero_le _, fun o0 no0 => ?_⟩
    have D8 := D7.but (same_upd (o := HO.lst []) no0)
    have B8 : But d H (L2.upd H7 o0 (.lst [])) := B7.trans (.new no0)
    refine ⟨fun σ' H' => ∃ (o1 : Addr) (ts : List V) (os : List Od), σ' = [some (V.ref d), some (V.int m), some (V.int p), some (V.int h), some (V.ref o1), none] ∧ But d H H' ∧ DAt H' d ∧ H' o1 = some (.lst ts) ∧ Paired (OrdAt H') ts os ∧ os.length ≤ m ∧ ∀ o ∈ os, OdOk p h o, ?_, ?_⟩
    · refine ⟨_, rfl, _, _, rfl, rfl, _, rfl, ite2 (fun e => ?_) (fun _ => ⟨o0, [], [], rfl, B8, D8, upd_same, .nil, Nat.zero_le _, fun _ z => by cases z⟩)⟩
      have h2 : (1 : Int) < h := of_decide_eq_true e
      refine ⟨_, rfl, _, rfl, _, _, rfl, rfl, d, m + 1, by rw [Int.natCast_add]; rfl, D8, by omega, by omega, fun H9 n hn b9 D9 => ?_⟩
      refine ⟨_, rfl, by omega, by omega, fun D nD => ?_⟩
      have D9' := D9.but (same_upd (o := HO.lst []) nD)
      have ndD : d ≠ D := ne_of_none D9.som.choose_spec nD
      refine lc_range (lo := 0) (n := ((n : Int)).toNat) (fun i H' => But d H H' ∧ DAt H' d ∧ ∃ (ts : List V) (os : List Od), H' D = some (.lst ts) ∧ ts.length = i ∧ Paired (OrdAt H') ts os ∧ ∀ o ∈ os, OdOk p h o)
        ⟨B8.trans (b9.trans (.new nD)), D9', [], [], upd_same, rfl, .nil, fun _ z => by cases z⟩ ?_ ?_
      · rintro i H' hi ⟨bb, DD, ts, os, hDD, hlen, hP, hOk⟩
        refine ⟨rfl, ?_⟩
        refine ⟨_, rfl, _, rfl, _, rfl, d, p, h, rfl, DD, by omega, p30, by omega, h10, fun H2 t o hok b2 D2 nt ht => ?_⟩
        have hD2 := b2 D _ ndD.symm hDD
        have tk := b2.tk DD
        have ntD : t ≠ D := (ne_of_none hDD nt).symm
        refine ⟨ts, hD2, small1000 (by omega), (bb.trans b2).updN ((B8.trans b9).free D9.som.choose_spec nD), D2.updN ndD, ts ++ [.ref t], os ++ [o], upd_same, by rw [List.length_append, hlen]; rfl, ?_, ?_⟩
        · refine Paired.snoc (OrdsAt.keep (tk.trans (TupKeep.lst hD2)) hP) ⟨t, rfl, ?_⟩
          rw [upd_ne ntD]
          exact ht
        · intro o' ho'
          rcases List.mem_append.mp ho' with z | z
          · exact hOk o' z
          · rw [List.mem_singleton.mp z]
            exact hok
      · rintro H' ⟨bb, DD, ts, os, hDD, hlen, hP, hOk⟩
        refine ⟨D, ts, os, rfl, bb, DD, hDD, hP, ?_, hOk⟩
        rw [← hP.length, hlen]
        omega
    · rintro σ' H' ⟨o1, ts, os, rfl, bb, DD, ho1, hP, hm2, hOk⟩
      refine ⟨_, rfl, _, rfl, _, rfl, o1, ts, rfl, .inl ⟨SqL.of ho1, fun t nt => ?_⟩⟩
      refine ⟨(by show 3 ≤ sizeLine; decide), fun a na => ?_⟩
      have s1 := same_upd (o := HO.tup ts) nt
      have s2 := same_upd (o := HO.tup [V.int p, V.int h, V.ref t]) na
      refine q _ a p h os ⟨p1, p30, h1, h10, by omega, hOk⟩ hm2 (bb.trans ((But.of s1).trans (.of s2))) (DD.but (s1.trans s2)) (bb.free DD.som.choose_spec (s1.free na)) ⟨t, upd_same, ts, ?_, OrdsAt.keep (tk_of (s1.trans s2)) hP⟩
      rw [upd_ne (ne_of_none (upd_same (H := H')) na), upd_same]
end
abbrev s_is_integer : Stmt := top 9
abbrev N_is_integer : List Str := ["value"]
abbrev P_is_integer : List Str := ["value"]
theorem sc_is_integer : FnScope N_is_integer P_is_integer (defScope s_is_integer) := ⟨rfl, rfl, rfl, by decide +kernel, rfl, by decide +kernel, by decide +kernel⟩
abbrev s_is_within : Stmt := top 10
abbrev N_is_within : List Str := ["value", "low", "high"]
abbrev P_is_within : List Str := ["value", "low", "high"]
theorem sc_is_within : FnScope N_is_within P_is_within (defScope s_is_within) := ⟨rfl, rfl, rfl, by decide +kernel, rfl, by decide +kernel, by decide +kernel⟩
abbrev s_is_order : Stmt := top 35
abbrev N_is_order : List Str := ["period", "houses", "order", "source", "target", "first", "days", "delay"]
abbrev P_is_order : List Str := ["period", "houses", "order"]
theorem sc_is_order : FnScope N_is_order P_is_order (defScope s_is_order) := ⟨rfl, rfl, rfl, by decide +kernel, rfl, by decide +kernel, by decide +kernel⟩
abbrev s_check_orders : Stmt := top 36
abbrev N_check_orders : List Str := ["period", "houses", "orders", "index", "order"]
abbrev P_check_orders : List Str := ["period", "houses", "orders"]
theorem sc_check_orders : FnScope N_check_orders P_check_orders (defScope s_check_orders) := ⟨rfl, rfl, rfl, by decide +kernel, rfl, by decide +kernel, by decide +kernel⟩
/-! ### is_within, is_order, check_orders -/
/-- a value that is no int (a bool, or a thing of another built-in type) -/
def NotInt (K : PySem.W.Frag) (H : Hp) (x : V) : Prop := (∃ b, x = .bl b) ∨ ∃ t, TyX K H x (.type t) ∧ kitB t "int" = some false
def Kn (K : PySem.W.Frag) (H : Hp) (x : V) : Prop := (∃ i, x = .int i) ∨ (NotInt K H x ∧ ∀ i, x ≠ .int i)
def withinB (x : V) (lo hi : Int) : Bool := match x with
  | .int v => decide (lo ≤ v) && decide (v ≤ hi)
  | _ => false
theorem Kn.int {K : PySem.W.Frag} {H : Hp} {i : Int} : Kn K H (.int i) := .inl ⟨i, rfl⟩
theorem withinB_no {x : V} {lo hi : Int} (h : ∀ i, x ≠ .int i) : withinB x lo hi = false := by
  unfold withinB
  split
  · rename_i v
    exact absurd rfl (h v)
  · rfl
def isIntB (x : V) : Bool := match x with
  | .int _ => true
  | _ => false
theorem isIntB_no {x : V} (h : ∀ i, x ≠ .int i) : isIntB x = false := by
  unfold isIntB
  split
  · rename_i v
    exact absurd rfl (h v)
  · rfl
def spIsInt (K : PySem.W.Frag) : Sp := fun vs H Q _ => ∃ (x : V), vs = [x] ∧ Kn K H x ∧ Q (.bl (isIntB x)) H
def spWithin (K : PySem.W.Frag) : Sp := fun vs H Q _ => ∃ (x : V) (lo hi : Int), vs = [x, .int lo, .int hi] ∧ Kn K H x ∧ Q (.bl (withinB x lo hi)) H
section
variable {P : Program} {w : World} {K : PySem.W.Frag} {mg : Str → Option Value} {base : Heap}
theorem ok_isint {f : Addr} {fd : FuncData} (F : Fun K "is_integer" "is_integer" s_is_integer f fd) (B : Blt mg) : FnOk P w K mg base CX0 1 f fd P_is_integer (spIsInt K) := by
  refine F.ok sc_is_integer (fun vs H Q E h => ?_) (fun cdv A outer s H vs Q E hr h => ?_)
  · obtain ⟨x, rfl, _⟩ := h
    rfl
  · obtain ⟨x, rfl, hk, q⟩ := h
    refine ⟨_, pss_one (ps_ret (pe_and (pe_callB call_isi (by rfl) B.isi PyProof.Rows.boot_isinstance (pa_cons (pv 0) (pa_cons (pe_bltn (v := .ty "int") (by rfl) B.int (by decide +kernel) rfl) pa_nil)))
      (pe_one (pe_not (pe_callB call_isi (by rfl) B.isi PyProof.Rows.boot_isinstance (pa_cons (pv 0) (pa_cons (pe_bltn (v := .ty "bool") (by rfl) B.bool (by decide +kernel) rfl) pa_nil))))))), ?_⟩
    rcases hk with ⟨v, rfl⟩ | ⟨⟨b, rfl⟩ | ⟨t, ty, kt⟩, hne⟩
    · refine ⟨_, rfl, _, _, _, _, true, rfl, .ty "int", .base (.int v), kit_ty (by decide +kernel), _, rfl, iteT ?_⟩
      exact ⟨_, rfl, _, _, _, _, false, rfl, .ty "bool", .base (.int v), kit_ty (by decide +kernel), _, rfl, q⟩
    · refine ⟨_, rfl, _, _, _, _, true, rfl, .ty "int", .base (.bl b), kit_ty (by decide +kernel), _, rfl, iteT ?_⟩
      exact ⟨_, rfl, _, _, _, _, true, rfl, .ty "bool", .base (.bl b), kit_ty (by decide +kernel), _, rfl, q⟩
    · rw [isIntB_no hne] at q
      exact ⟨_, rfl, _, _, _, _, false, rfl, .ty "int", ty, kit_ty kt, _, rfl, iteF q⟩
theorem ok_within {f : Addr} {fd : FuncData} (F : Fun K "is_within" "is_within" s_is_within f fd) (DI : Df P w K mg base "is_integer" 1 P_is_integer (spIsInt K)) : FnOk P w K mg base CX0 2 f fd P_is_within (spWithin K) := by
  obtain ⟨fI, fdI, gI, KI, bI, GI⟩ := DI
  refine F.ok sc_is_within (fun vs H Q E h => ?_) (fun cdv A outer s H vs Q E hr h => ?_)
  · obtain ⟨x, lo, hi, rfl, _⟩ := h
    rfl
  · obtain ⟨x, lo, hi, rfl, hk, q⟩ := h
    refine ⟨_, pss_one (ps_ret (pe_and (pe_call GI hr (by rfl) gI KI bI .nil pass0 (pa_cons (pv 0) pa_nil))
      (pe_one (pe_chain op_le op_le (pv 1) (pv 0) (pv 2))))), ?_⟩
    refine ⟨_, rfl, x, rfl, hk, ?_⟩
    cases x with
    | int v =>
      refine ⟨_, rfl, iteT ?_⟩
      refine ⟨_, rfl, _, rfl, _, _, rfl, rfl, _, rfl, ite2 (fun e => ?_) (fun e => ?_)⟩
      · refine ⟨_, rfl, _, _, rfl, rfl, ?_⟩
        have q2 : Q (.bl (decide (lo ≤ v) && decide (v ≤ hi))) H := q
        rw [e, Bool.true_and] at q2
        exact q2
      · have q2 : Q (.bl (decide (lo ≤ v) && decide (v ≤ hi))) H := q
        rw [Bool.eq_false_iff.mpr e, Bool.false_and] at q2
        exact q2
    | _ => exact ⟨_, rfl, iteF q⟩
end
/-- what is_order says of the values of a tuple -/
def orderB (p h : Int) : List V → Bool
  | [s, t, f, n, e] => withinB s 0 (h - 1) && (withinB t 0 (h - 1) && (!decide (s = t) && (withinB f 0 (p - 1) && (withinB n 1 p && withinB e 1 9))))
  | _ => false
theorem within_nat {v lo hi : Nat} (h1 : lo ≤ v) (h2 : v ≤ hi) : withinB (.int v) lo hi = true := by
  show (decide ((lo : Int) ≤ v) && decide ((v : Int) ≤ hi)) = true
  rw [decide_eq_true (by omega), decide_eq_true (by omega)]
  rfl
theorem orderB_ok {p h : Nat} {o : Od} (k : OdOk p h o) : orderB p h o.vs = true := by
  have a1 := k.s; have a2 := k.t; have a3 := k.st; have a4 := k.f; have a5 := k.n1; have a6 := k.n; have a7 := k.e1; have a8 := k.e
  show (withinB (.int o.s) 0 ((h : Int) - 1) && (withinB (.int o.t) 0 ((h : Int) - 1) && (!decide (V.int o.s = V.int o.t) && (withinB (.int o.f) 0 ((p : Int) - 1) && (withinB (.int o.n) 1 p && withinB (.int o.e) 1 9))))) = true
  have e1 : ((h : Int) - 1) = ((h - 1 : Nat) : Int) := by omega
  have e2 : ((p : Int) - 1) = ((p - 1 : Nat) : Int) := by omega
  rw [e1, e2]
  have b1 : withinB (.int o.s) 0 ((h - 1 : Nat) : Int) = true := within_nat (lo := 0) (by omega) (by omega)
  have b2 : withinB (.int o.t) 0 ((h - 1 : Nat) : Int) = true := within_nat (lo := 0) (by omega) (by omega)
  have b3 : withinB (.int o.f) 0 ((p - 1 : Nat) : Int) = true := within_nat (lo := 0) (by omega) (by omega)
  have b4 : withinB (.int o.n) 1 p = true := within_nat (lo := 1) (by omega) (by omega)
  have b5 : withinB (.int o.e) 1 9 = true := within_nat (lo := 1) (hi := 9) (by omega) (by omega)
  have b6 : decide (V.int (o.s : Int) = V.int o.t) = false := decide_eq_false fun z => a3 (by
    have z2 := V.int.inj z
    omega)
  rw [b1, b2, b3, b4, b5, b6]
  rfl
/-- what may be asked whether it is an order: a tuple of known values, or a thing that is no tuple -/
def OrderLike (K : PySem.W.Frag) (H : Hp) (v : V) (p h : Int) (b : Bool) : Prop :=
  (∃ a xs, v = .ref a ∧ H a = some (.tup xs) ∧ (∀ x ∈ xs, Kn K H x) ∧ b = orderB p h xs) ∨ (∃ t, TyX K H v (.type t) ∧ kitB t "tuple" = some false ∧ b = false)
theorem OrdAt.like {K : PySem.W.Frag} {H : Hp} {v : V} {o : Od} {p h : Nat} (k : OdOk p h o) (q : OrdAt H v o) : OrderLike K H v p h true := by
  obtain ⟨t, rfl, ht⟩ := q
  refine .inl ⟨t, _, rfl, ht, fun x hx => ?_, (orderB_ok k).symm⟩
  unfold Od.vs at hx
  simp only [List.mem_cons, List.not_mem_nil, or_false] at hx
  rcases hx with rfl | rfl | rfl | rfl | rfl <;> exact Kn.int
theorem withinB_int {x : V} {lo hi : Int} (h : withinB x lo hi = true) : ∃ i, x = .int i := by
  cases x <;> first
    | exact ⟨_, rfl⟩
    | cases h
def spIsOrder (K : PySem.W.Frag) : Sp := fun vs H Q _ => ∃ (v : V) (p h : Int) (b : Bool), vs = [.int p, .int h, v] ∧ OrderLike K H v p h b ∧ Q (.bl b) H
section
variable {P : Program} {w : World} {K : PySem.W.Frag} {mg : Str → Option Value} {base : Heap}
theorem ok_is_order {f : Addr} {fd : FuncData} (F : Fun K "is_order" "is_order" s_is_order f fd) (B : Blt mg) (DW : Df P w K mg base "is_within" 2 P_is_within (spWithin K)) (hM : ∃ t, mg "LONGEST_DELAY" = some (.int 9 t)) : FnOk P w K mg base CX0 3 f fd P_is_order (spIsOrder K) := by
  obtain ⟨fW, fdW, gW, kW, bW, GW⟩ := DW
  obtain ⟨tk9, hM⟩ := hM
  refine F.ok sc_is_order (fun vs H Q E h => ?_) (fun cdv A outer s H vs Q E hr h => ?_)
  · obtain ⟨v, p, h, b, rfl, _⟩ := h
    rfl
  · obtain ⟨v, p, h, b, rfl, hl, q⟩ := h
    refine ⟨_, pss_cons (ps_if (PW.pt (pw_or (pt_not (pt_val (pe_callB call_isi (by rfl) B.isi PyProof.Rows.boot_isinstance (pa_cons (pv 2) (pa_cons (pe_bltn (v := .ty "tuple") (by rfl) B.tuple (by decide +kernel) rfl) pa_nil)))))
        (pw_or1 (pt_cmpR op_ne (pe_callB call_len_seq (by rfl) B.len PySem.boot_len (pa_cons (pv 2) pa_nil)) pe_int (nomark _))))) (pss_one (ps_ret pe_bl)) pss_nil)
      (pss_cons (ps_asg (pv 2) (pg_tup (by rfl) (pgs_cons (pg_name (i := 3) sc_is_order.nd rfl (.inl rfl)) (pgs_cons (pg_name (i := 4) sc_is_order.nd rfl (.inl rfl)) (pgs_cons (pg_name (i := 5) sc_is_order.nd rfl (.inl rfl))
        (pgs_cons (pg_name (i := 6) sc_is_order.nd rfl (.inl rfl)) (pgs_cons (pg_name (i := 7) sc_is_order.nd rfl (.inl rfl)) pgs_nil)))))))
      (pss_cons (ps_if (pt_not (PW.pt (pw_and (pt_val (pe_call GW hr (by rfl) gW kW bW .nil pass0 (pa_cons (pv 3) (pa_cons pe_int (pa_cons (pe_op op_sub (pv 1) pe_int) pa_nil)))))
        (pw_and (pt_val (pe_call GW hr (by rfl) gW kW bW .nil pass0 (pa_cons (pv 4) (pa_cons pe_int (pa_cons (pe_op op_sub (pv 1) pe_int) pa_nil)))))
          (pw_and1 (pt_cmpR op_ne (pv 3) (pv 4) (nomark _))))))) (pss_one (ps_ret pe_bl)) pss_nil)
      (pss_one (ps_ret (pe_and (pe_call GW hr (by rfl) gW kW bW .nil pass0 (pa_cons (pv 5) (pa_cons pe_int (pa_cons (pe_op op_sub (pv 0) pe_int) pa_nil))))
        (pe_and (pe_call GW hr (by rfl) gW kW bW .nil pass0 (pa_cons (pv 6) (pa_cons pe_int (pa_cons (pv 0) pa_nil))))
          (pe_one (pe_call GW hr (by rfl) gW kW bW .nil pass0 (pa_cons (pv 7) (pa_cons pe_int (pa_cons (pe_glob (v := .int 9) rfl hM ⟨_, rfl⟩) pa_nil))))))))))), ?_⟩
    rcases hl with ⟨a, xs, rfl, ha, hkn, rfl⟩ | ⟨t, ty, kt, rfl⟩
    · refine ⟨_, rfl, _, _, _, _, true, rfl, .ty "tuple", .base (.tup ha), kit_ty (by decide +kernel), _, rfl, iteF ?_⟩
      refine ⟨_, rfl, a, xs, rfl, .inr (SqT.of ha), rfl, _, rfl, ?_⟩
      refine ite2 (fun e => ?_) (fun e => ?_)
      · have hne : orderB p h xs = false := by
          match xs, e with
          | [], _ => rfl
          | [_], _ => rfl
          | [_, _], _ => rfl
          | [_, _, _], _ => rfl
          | [_, _, _, _], _ => rfl
          | [_, _, _, _, _], e => exact absurd e (by show ¬ (!decide (V.int ((5 : Nat) : Int) = V.int 5)) = true; decide)
          | _ :: _ :: _ :: _ :: _ :: _ :: _, _ => rfl
        rw [hne] at q
        exact q
      · have h5 : xs.length = 5 := by
          by_cases z : xs.length = 5
          · exact z
          · exact absurd (show (!decide (V.int (xs.length : Int) = V.int 5)) = true by
              rw [decide_eq_false (fun z2 => z (by have z3 := V.int.inj z2; omega))]
              rfl) e
        match xs, h5 with
        | [x1, x2, x3, x4, x5], _ =>
          have k1 := hkn x1 (by simp)
          have k2 := hkn x2 (by simp)
          have k3 := hkn x3 (by simp)
          have k4 := hkn x4 (by simp)
          have k5 := hkn x5 (by simp)
          refine ⟨_, rfl, a, _, rfl, SqT.of ha, rfl, _, _, rfl, _, _, rfl, _, _, rfl, _, _, rfl, _, _, rfl, rfl, ?_⟩
          have q2 : Q (.bl (withinB x1 0 (h - 1) && (withinB x2 0 (h - 1) && (!decide (x1 = x2) && (withinB x3 0 (p - 1) && (withinB x4 1 p && withinB x5 1 9)))))) H := q
          refine ⟨_, rfl, _, rfl, _, _, rfl, rfl, x1, 0, h - 1, rfl, k1, _, rfl, ite2 (fun e1 => ?_) (fun e1 => ?_)⟩
          · refine ⟨_, rfl, _, rfl, _, _, rfl, rfl, x2, 0, h - 1, rfl, k2, _, rfl, ite2 (fun e2 => ?_) (fun e2 => ?_)⟩
            · obtain ⟨i1, rfl⟩ := withinB_int e1
              obtain ⟨i2, rfl⟩ := withinB_int e2
              rw [e1, e2, Bool.true_and, Bool.true_and] at q2
              refine ⟨_, rfl, _, rfl, rfl, _, rfl, ?_⟩
              by_cases z : V.int i1 = V.int i2
              · rw [decide_eq_true z] at q2
                rw [decide_eq_true z]
                exact q2
              · rw [decide_eq_false z, Bool.not_false, Bool.true_and] at q2
                rw [decide_eq_false z]
                refine ⟨_, rfl, _, rfl, _, _, rfl, rfl, x3, 0, p - 1, rfl, k3, _, rfl, ite2 (fun e3 => ?_) (fun e3 => ?_)⟩
                · rw [e3, Bool.true_and] at q2
                  refine ⟨_, rfl, _, rfl, x4, 1, p, rfl, k4, _, rfl, ite2 (fun e4 => ?_) (fun e4 => ?_)⟩
                  · rw [e4, Bool.true_and] at q2
                    exact ⟨_, rfl, x5, 1, 9, rfl, k5, q2⟩
                  · rw [Bool.eq_false_iff.mpr e4, Bool.false_and] at q2
                    exact q2
                · rw [Bool.eq_false_iff.mpr e3, Bool.false_and] at q2
                  exact q2
            · rw [e1, Bool.eq_false_iff.mpr e2, Bool.true_and, Bool.false_and] at q2
              exact iteT q2
          · rw [Bool.eq_false_iff.mpr e1, Bool.false_and] at q2
            exact iteT q2
    · exact ⟨_, rfl, _, _, _, _, false, rfl, .ty "tuple", ty, kit_ty kt, _, rfl, iteT q⟩
end
/-! ### walks over an enumerated tuple; check_orders for valid nets; find_followed -/
theorem for_enumT {K : PySem.W.Frag} {a : Addr} {xs : List V} {g : TG} {tb : TS} {D : Ends} {σ : L2.St} {H : Hp} (Pv : Nat → L2.St → Hp → Prop) (h0 : Pv 0 σ H) (hl : ∀ i σ H, Pv i σ H → H a = some (.tup xs))
    (hs : ∀ i x σ H T, xs[i]? = some x → Pv i σ H → H T = none → g (.ref T) σ (upd H T (.tup [.int (i : Nat), x])) fun σ2 H2 => tb { D with nx := Pv (i + 1), ct := Pv (i + 1), bk := D.nx } σ2 H2) (hd : ∀ σ H, Pv xs.length σ H → D.nx σ H) :
    ∃ W : Nat → Nat → L2.St → Hp → Prop, (∃ m, W 0 m σ H) ∧ ∀ i m σ H, W i m σ H →
      ((IteT K a).stop i H ∧ D.nx σ H) ∨ ((IteT K a).go i H ∧ ∃ N : L2.St → Hp → Prop, (∀ σ' H', N σ' H' → ∃ m', m' < m ∧ W (i + 1) m' σ' H') ∧ ∀ x H', (IteT K a).yld i H x H' → g x σ H' fun σ2 H2 => tb { D with nx := N, ct := N, bk := D.nx } σ2 H2) := by
  refine ⟨fun i m σ H => m = xs.length - i ∧ i ≤ xs.length ∧ Pv i σ H, ⟨xs.length, rfl, Nat.zero_le _, h0⟩, ?_⟩
  rintro i m σ H ⟨rfl, hi, p⟩
  have q := hl i σ H p
  by_cases hlt : i < xs.length
  · refine .inr ⟨⟨xs, xs[i], SqT.of q, List.getElem?_eq_getElem hlt⟩, Pv (i + 1), fun σ' H' p' => ⟨xs.length - (i + 1), by omega, rfl, hlt, p'⟩, fun x H' y => ?_⟩
    obtain ⟨T, x', rfl, nT, rfl, f⟩ := y
    obtain rfl : x' = xs[i] := Option.some.inj ((f xs (SqT.of q)).symm.trans (List.getElem?_eq_getElem hlt))
    exact hs i _ σ H T (List.getElem?_eq_getElem hlt) p nT
  · refine .inl ⟨⟨xs, SqT.of q, by omega⟩, hd σ H ?_⟩
    rw [show xs.length = i by omega]
    exact p
def spChkOrders : Sp := fun vs H Q _ => ∃ (t : Addr) (p h : Nat) (os : List Od), vs = [.int p, .int h, .ref t] ∧ NetOk p h os ∧ OrdsTup H t os ∧ ∀ H', Same H H' → Q .non H'
section
variable {P : Program} {w : World} {K : PySem.W.Frag} {mg : Str → Option Value} {base : Heap}
theorem ok_chk_orders {f : Addr} {fd : FuncData} (F : Fun K "check_orders" "check_orders" s_check_orders f fd) (B : Blt mg) (DI : Df P w K mg base "is_order" 3 P_is_order (spIsOrder K)) (hM : ∃ t, mg "MOST_ORDERS" = some (.int 20 t)) : FnOk P w K mg base CX0 4 f fd P_check_orders spChkOrders := by
  obtain ⟨fI, fdI, gI, kI, bI, GI⟩ := DI
  obtain ⟨tk20, hM⟩ := hM
  refine F.ok sc_check_orders (fun vs H Q E h => ?_) (fun cdv A outer s H vs Q E hr h => ?_)
  · obtain ⟨t, p, h, os, rfl, _⟩ := h
    rfl
  · obtain ⟨t, p, h, os, rfl, N, ⟨ts, ht, hP⟩, q⟩ := h
    refine ⟨_, pss_cons (ps_if (pt_not (pt_val (pe_callB call_isi (by rfl) B.isi PyProof.Rows.boot_isinstance (pa_cons (pv 2) (pa_cons (pe_bltn (v := .ty "tuple") (by rfl) B.tuple (by decide +kernel) rfl) pa_nil))))) (pss_one ps_never) pss_nil)
      (pss_one (ps_for PassesOwn.never rfl (pi_enumT (by rfl) B.enum (pa_cons (pv 2) pa_nil)) (pg_tup (by rfl) (pgs_cons (pg_name (i := 3) sc_check_orders.nd rfl (.inl rfl)) (pgs_cons (pg_name (i := 4) sc_check_orders.nd rfl (.inl rfl)) pgs_nil)))
        (pss_one (ps_if (PW.pt (pw_or (pt_cmpR op_eq (pv 3) (pe_glob (v := .int 20) rfl hM ⟨_, rfl⟩) (nomark _)) (pw_or1 (pt_not (pt_val (pe_call GI hr (by rfl) gI kI bI .nil pass0 (pa_cons (pv 0) (pa_cons (pv 1) (pa_cons (pv 4) pa_nil)))))))))
          (pss_one ps_never) pss_nil)))), ?_⟩
    refine ⟨_, rfl, _, _, _, _, true, rfl, .ty "tuple", .base (.tup ht), kit_ty (by decide +kernel), _, rfl, iteF ?_⟩
    refine ⟨_, rfl, t, ts, rfl, ht, for_enumT (K := K) (a := t) (xs := ts) (fun i σ H' => (∃ x y, σ = [some (.int p), some (.int h), some (.ref t), x, y]) ∧ Same H H') ⟨⟨_, _, rfl⟩, .refl H⟩ (fun i σ H' ⟨_, s1⟩ => s1 _ _ ht) ?_ ?_⟩
    · rintro i x σ H1 T hi ⟨⟨x3, x4, rfl⟩, s1⟩ nT
      have s2 := same_upd (o := HO.tup [.int (i : Nat), x]) nT
      have hil : i < ts.length := (List.getElem?_eq_some_iff.mp hi).1
      have hlen := hP.length
      have hlen2 := N.len
      refine ⟨T, _, rfl, SqT.of upd_same, rfl, _, _, rfl, _, _, rfl, rfl, ?_⟩
      refine ⟨_, rfl, rfl, _, rfl, ?_⟩
      have e1 : decide (V.int ((i : Nat) : Int) = V.int 20) = false := decide_eq_false fun z => by
        have z2 := V.int.inj z
        omega
      rw [e1]
      obtain ⟨x', hx', ho⟩ := Paired.get? (i := i) hP (List.getElem?_eq_getElem (by omega))
      obtain rfl : x' = x := Option.some.inj (hx'.symm.trans hi)
      have hk := N.ok _ (List.getElem_mem (by omega : i < os.length))
      exact iteF ⟨_, rfl, _, rfl, _, rfl, x', p, h, true, rfl, OrdAt.like hk (ho.keep (tk_of (s1.trans s2))), _, rfl, iteF ⟨⟨_, _, rfl⟩, s1.trans s2⟩⟩
    · rintro σ H1 ⟨_, s1⟩
      exact q H1 s1
end
/-! the table of the orders that are followed -/
def amongB (p f : Nat) : Nat → Nat → Bool
  | 0, _ => false
  | l + 1, d => amongB p f l d || decide ((f + l) % p = d)
theorem amongB_iff {p f d : Nat} : ∀ l, amongB p f l d = true ↔ among p f l d
  | 0 => ⟨fun h => Bool.noConfusion h, fun h => absurd h (among_zero _ _ _)⟩
  | l + 1 => by
    show (amongB p f l d || decide ((f + l) % p = d)) = true ↔ _
    rw [among_succ, Bool.or_eq_true, amongB_iff l, decide_eq_true_iff]
def cellV (p : Nat) (os : List Od) (s d : Nat) : V := optV (idx p os s (d : Int))
/-- amid the order o, the k-th: its first l days are done -/
def cellM (p : Nat) (os : List Od) (o : Od) (k l s d : Nat) : V := optV ((idx p os s (d : Int)).or (if (decide (s = o.s) && amongB p o.f l d) = true then some k else none))
structure TabAt (H0 H : Hp) (fl : Addr) (p h : Nat) (g : Nat → Nat → V) (as : List Addr) : Prop where
  same : Same H0 H
  len : as.length = h
  fl0 : H0 fl = none
  flat : H fl = some (.lst (as.map V.ref))
  nd : as.Nodup
  out : fl ∉ as
  new : ∀ a ∈ as, H0 a = none
  row : ∀ i a, as[i]? = some a → H a = some (.lst ((List.range p).map (g i)))
theorem TabAt.congr {H0 H : Hp} {fl : Addr} {p h : Nat} {g g' : Nat → Nat → V} {as : List Addr} (T : TabAt H0 H fl p h g as) (e : ∀ s d, s < h → d < p → g s d = g' s d) : TabAt H0 H fl p h g' as := by
  refine { T with row := fun i a hi => ?_ }
  rw [T.row i a hi]
  have hi2 := (List.getElem?_eq_some_iff.mp hi).1
  rw [List.map_congr_left fun d hd => e i d (by rw [← T.len]; exact hi2) (List.mem_range.mp hd)]
theorem TabAt.keep {H0 H H' : Hp} {fl : Addr} {p h : Nat} {g : Nat → Nat → V} {as : List Addr} (T : TabAt H0 H fl p h g as) (s : Same H H') : TabAt H0 H' fl p h g as :=
  { T with same := T.same.trans s, flat := s _ _ T.flat, row := fun i a hi => s _ _ (T.row i a hi) }
theorem range_set {p dd : Nat} {g : Nat → V} {v : V} : ((List.range p).map g).set dd v = (List.range p).map fun d => if d = dd then v else g d := by
  apply List.ext_getElem
  · simp
  · intro i h1 h2
    rw [List.getElem_set]
    simp only [List.getElem_map, List.getElem_range]
    by_cases z : dd = i
    · subst z; simp
    · rw [if_neg z, if_neg (Ne.symm z)]
theorem TabAt.set {H0 H : Hp} {fl a : Addr} {p h s dd : Nat} {g : Nat → Nat → V} {as : List Addr} {v : V} (T : TabAt H0 H fl p h g as) (ha : as[s]? = some a) :
    TabAt H0 (upd H a (.lst (((List.range p).map (g s)).set dd v))) fl p h (fun i d => if i = s ∧ d = dd then v else g i d) as := by
  have ham : a ∈ as := List.mem_of_getElem? ha
  have sl : s < as.length := (List.getElem?_eq_some_iff.mp ha).1
  refine { T with same := fun b o e => ?_, flat := ?_, row := fun i b hi => ?_ }
  · have n : b ≠ a := fun z => by
      have q := T.new a ham
      rw [← z, e] at q
      cases q
    rw [upd_ne n]
    exact T.same _ _ e
  · have n : fl ≠ a := fun z => T.out (by rw [z]; exact ham)
    rw [upd_ne n]
    exact T.flat
  · by_cases z : i = s
    · subst z
      obtain rfl : b = a := Option.some.inj (hi.symm.trans ha)
      rw [upd_same, range_set]
      congr 2
      apply List.map_congr_left
      intro d _
      by_cases z2 : d = dd
      · simp [z2]
      · simp [z2]
    · have n : b ≠ a := fun z2 => by
        subst z2
        have i1 := (List.getElem?_eq_some_iff.mp hi)
        have i2 := (List.getElem?_eq_some_iff.mp ha)
        obtain ⟨l1, e1⟩ := i1
        obtain ⟨l2, e2⟩ := i2
        have pw := List.pairwise_iff_getElem.mp T.nd
        rcases Nat.lt_or_gt_of_ne z with q | q
        · exact pw i s l1 l2 q (e1.trans e2.symm)
        · exact pw s i l2 l1 q (e2.trans e1.symm)
      rw [upd_ne n, T.row i b hi]
      congr 2
      apply List.map_congr_left
      intro d _
      rw [if_neg (fun q => z q.1)]
def spFollowed : Sp := fun vs H Q _ => ∃ (t : Addr) (p h : Nat) (os : List Od), vs = [.int p, .int h, .ref t] ∧ NetOk p h os ∧ OrdsTup H t os ∧ ∀ H' fl as, TabAt H H' fl p h (cellV p os) as → Q (.ref fl) H'
theorem rep_flat {p : Nat} {v : V} : (List.replicate p [v]).flatten = List.replicate p v := by
  induction p with
  | zero => rfl
  | succ n ih => rw [List.replicate_succ, List.flatten_cons, ih]; rfl
theorem rep_range {p : Nat} {v : V} : List.replicate p v = (List.range p).map fun _ => v := by
  rw [List.map_const', List.length_range]
theorem optV_non {o : Option Nat} (h : optV o = .non) : o = none := by
  cases o with
  | none => rfl
  | some k => cases h
theorem cellM_hit {p i l s d : Nat} {os : List Od} {o : Od} (h : cellM p os o i l o.s ((o.f + l) % p) = .non) :
    (if s = o.s ∧ d = (o.f + l) % p then V.int (i : Nat) else cellM p os o i l s d) = cellM p os o i (l + 1) s d := by
  unfold cellM at *
  by_cases c : s = o.s ∧ d = (o.f + l) % p
  · rw [if_pos c]
    obtain ⟨c1, c2⟩ := c
    subst c1 c2
    have z := optV_non h
    rw [Option.or_eq_none_iff] at z
    rw [z.1]
    have e : (decide (o.s = o.s) && amongB p o.f (l + 1) ((o.f + l) % p)) = true := by
      rw [decide_eq_true rfl, Bool.true_and]
      exact (amongB_iff (l + 1)).mpr (among_succ.mpr (.inr rfl))
    rw [if_pos e]
    rfl
  · rw [if_neg c]
    have e : (decide (s = o.s) && amongB p o.f l d) = (decide (s = o.s) && amongB p o.f (l + 1) d) := by
      by_cases c1 : s = o.s
      · have c2 : ¬ (o.f + l) % p = d := fun z => c ⟨c1, z.symm⟩
        show _ = (_ && (amongB p o.f l d || decide ((o.f + l) % p = d)))
        rw [decide_eq_false c2, Bool.or_false]
      · rw [decide_eq_false c1, Bool.false_and, Bool.false_and]
    rw [e]
theorem cellM_miss {p i l s d : Nat} {os : List Od} {o : Od} (h : cellM p os o i l o.s ((o.f + l) % p) ≠ .non) : cellM p os o i l s d = cellM p os o i (l + 1) s d := by
  by_cases c : s = o.s ∧ d = (o.f + l) % p
  · obtain ⟨c1, c2⟩ := c
    subst c1 c2
    unfold cellM at *
    have e : (decide (o.s = o.s) && amongB p o.f (l + 1) ((o.f + l) % p)) = true := by
      rw [decide_eq_true rfl, Bool.true_and]
      exact (amongB_iff (l + 1)).mpr (among_succ.mpr (.inr rfl))
    rw [if_pos e]
    cases q : idx p os o.s ((o.f + l) % p : Nat) with
    | some k => rfl
    | none =>
      rw [q] at h
      by_cases c : (decide (o.s = o.s) && amongB p o.f l ((o.f + l) % p)) = true
      · rw [if_pos c]
      · rw [if_neg c] at h
        exact absurd rfl h
  · unfold cellM
    have e : (decide (s = o.s) && amongB p o.f l d) = (decide (s = o.s) && amongB p o.f (l + 1) d) := by
      by_cases c1 : s = o.s
      · have c2 : ¬ (o.f + l) % p = d := fun z => c ⟨c1, z.symm⟩
        show _ = (_ && (amongB p o.f l d || decide ((o.f + l) % p = d)))
        rw [decide_eq_false c2, Bool.or_false]
      · rw [decide_eq_false c1, Bool.false_and, Bool.false_and]
    rw [e]
theorem cellM_end {p h i s d : Nat} {os : List Od} {o : Od} (k : OdOk p h o) (hi : os[i]? = some o) (hd : d < p) : cellM p (os.take i) o i o.n s d = cellV p (os.take (i + 1)) s d := by
  unfold cellM cellV
  rw [idx_take_succ hi]
  have e : (decide (s = o.s) && amongB p o.f o.n d) = hit p s (d : Int) o := by
    unfold hit
    have e1 : amongB p o.f o.n d = onDay p o (d : Int) := by
      rw [Bool.eq_iff_iff, amongB_iff, among_on k hd]
    rw [e1]
    by_cases c : s = o.s
    · rw [decide_eq_true c, decide_eq_true c.symm]
    · rw [decide_eq_false c, decide_eq_false fun z => c z.symm]
  rw [e]
abbrev s_find_followed : Stmt := top 38
abbrev N_find_followed : List Str := ["period", "houses", "orders", "followed", "index", "source", "target", "first", "days", "delay", "later", "day", "house"]
abbrev P_find_followed : List Str := ["period", "houses", "orders"]
theorem sc_find_followed : FnScope N_find_followed P_find_followed (defScope s_find_followed) := ⟨rfl, rfl, rfl, by decide +kernel, rfl, by decide +kernel, by decide +kernel⟩
section
variable {P : Program} {w : World} {K : PySem.W.Frag} {mg : Str → Option Value} {base : Heap}
theorem ok_followed {f : Addr} {fd : FuncData} (F : Fun K "find_followed" "find_followed" s_find_followed f fd) (B : Blt mg) : FnOk P w K mg base CX0 2 f fd P_find_followed spFollowed := by
  refine F.ok sc_find_followed (fun vs H Q E h => ?_) (fun cdv A outer s H vs Q E hr h => ?_)
  · obtain ⟨t, p, h, os, rfl, _⟩ := h
    rfl
  · obtain ⟨t, p, h, os, rfl, N, hO, q⟩ := h
    obtain ⟨ts, ht, hP⟩ := id hO
    have p1 := N.p1; have p30 := N.p30; have h1 := N.h1; have h10 := N.h10; have ol := N.len
    refine ⟨_, pss_cons (ps_setLc (i := 3) (own := [("house", 12)]) (g := gName 12) (tt := tYes) (by rfl) sc_find_followed.nd rfl rfl (sw_true rfl rfl rfl (by decide +kernel))
          (pi_range1 rfl B.range (pa_cons (pv 1) pa_nil)) (blkOk_by (N := N_find_followed) (sc := defScope s_find_followed) (by decide +kernel)) (fun _ _ _ _ _ => pg_name (i := 12) sc_find_followed.nd rfl (.inl rfl)) (fun _ _ _ _ _ => pts_nil)
          (fun _ _ _ _ _ => pe_op op_rep (pe_lst (pa_cons pe_non pa_nil)) (pv 0)))
      (pss_cons (ps_for PassesOwn.never rfl (pi_enumT (by rfl) B.enum (pa_cons (pv 2) pa_nil)) (pg_tup (by rfl) (pgs_cons (pg_name (i := 4) sc_find_followed.nd rfl (.inl rfl)) (pgs_cons (pg_tup (by rfl)
            (pgs_cons (pg_name (i := 5) sc_find_followed.nd rfl (.inl rfl)) (pgs_cons (pg_name (i := 6) sc_find_followed.nd rfl (.inl rfl)) (pgs_cons (pg_name (i := 7) sc_find_followed.nd rfl (.inl rfl)) (pgs_cons (pg_name (i := 8) sc_find_followed.nd rfl (.inl rfl)) (pgs_cons (pg_name (i := 9) sc_find_followed.nd rfl (.inl rfl)) pgs_nil)))))) pgs_nil)))
        (pss_one (ps_for PassesOwn.never rfl (pi_range1 rfl B.range (pa_cons (pv 8) pa_nil)) (pg_name (i := 10) sc_find_followed.nd rfl (.inl rfl))
          (pss_cons (ps_set (i := 11) sc_find_followed.nd rfl (.inl rfl) (pe_op op_modN (pe_op op_add (pv 7) (pv 10)) (pv 0)))
          (pss_one (ps_if (pt_cmpR op_isN (pe_ix ix_list (pe_ix ix_list (pv 3) (pv 5) (fun _ _ => rfl)) (pv 11) (fun _ _ => rfl)) pe_non (nomark _))
            (pss_one (ps_asg (pv 4) (pg_sub (pe_ix ix_list (pv 3) (pv 5) (fun _ _ => rfl)) (pv 11) set_list))) pss_nil))))))
      (pss_one (ps_ret (pv 3)))), ?_⟩
    -- the empty table
    refine ⟨_, rfl, h, rfl, by omega, by omega, fun D nD => ?_⟩
    refine lc_range (lo := 0) (n := (h : Int).toNat) (fun i H' => ∃ as, TabAt H H' D p i (fun _ _ => .non) as) ⟨[], same_upd nD, rfl, nD, upd_same, List.nodup_nil, by simp, by simp, fun i a z => by simp at z⟩ ?_ ?_
    · rintro i H' hi ⟨as, T⟩
      refine ⟨rfl, Nat.le_trans (by decide : 1 ≤ 1000) (Nat.le_of_lt (small1000 (Nat.le_refl _))), fun l0 nl0 => ?_⟩
      have T1 := T.keep (same_upd (o := HO.lst [V.non]) nl0)
      refine ⟨_, rfl, l0, p, [.non], rfl, rfl, upd_same, by omega, by omega, Nat.le_of_lt (small1000 (by show 1 * (p : Int).toNat ≤ 1000; omega)), fun r nr => ?_⟩
      have T2 := T1.keep (same_upd (o := HO.lst (List.replicate (p : Int).toNat [V.non]).flatten) nr)
      have fD := T2.flat
      refine ⟨_, fD, small1000 (by rw [List.length_map, T.len]; omega), as ++ [r], ?_⟩
      have nrD : r ≠ D := (ne_of_none T1.flat nr).symm
      have nas : r ∉ as := fun z => by
        obtain ⟨j, hj⟩ := List.getElem?_of_mem z
        exact ne_of_none (T1.row j r hj) nr rfl
      have nr0 : H r = none := T1.same.free nr
      refine ⟨fun b o e => ?_, by rw [List.length_append, T.len]; rfl, T.fl0, ?_, ?_, ?_, ?_, ?_⟩
      · rw [upd_ne (ne_of_none e T.fl0)]
        exact T2.same _ _ e
      · rw [upd_same, List.map_append]
        rfl
      · rw [List.nodup_append]
        exact ⟨T.nd, by simp, fun a ha b hb => by rw [List.mem_singleton.mp hb]; exact fun z => nas (z ▸ ha)⟩
      · intro z
        rcases List.mem_append.mp z with z | z
        · exact T.out z
        · exact nrD (List.mem_singleton.mp z).symm
      · intro a ha
        rcases List.mem_append.mp ha with z | z
        · exact T.new a z
        · rw [List.mem_singleton.mp z]
          exact nr0
      · intro j a hj
        by_cases z : j < as.length
        · rw [List.getElem?_append_left z] at hj
          have hn : a ≠ D := fun z2 => T.out (by rw [← z2]; exact List.mem_of_getElem? hj)
          rw [upd_ne hn]
          exact T2.row j a hj
        · rw [List.getElem?_append_right (by omega)] at hj
          obtain ⟨hj1, hj2⟩ := List.getElem?_eq_some_iff.mp hj
          have e0 : j - as.length = 0 := by
            have : j - as.length < 1 := hj1
            omega
          have ea : a = r := by
            rw [e0] at hj
            exact (Option.some.inj hj).symm
          rw [ea, upd_ne nrD, upd_same, rep_flat, rep_range]
          rfl
    · rintro H1 ⟨as, T⟩
      have hO1 : H1 t = some (.tup ts) := T.same _ _ ht
      -- each order
      refine ⟨_, rfl, t, ts, rfl, hO1, for_enumT (K := K) (a := t) (xs := ts) (fun i σ H' => (∃ x4 x5 x6 x7 x8 x9 x10 x11, σ = [some (.int p), some (.int h), some (.ref t), some (.ref D), x4, x5, x6, x7, x8, x9, x10, x11, none]) ∧ TabAt H H' D p h (cellV p (os.take i)) as)
        ⟨⟨_, _, _, _, _, _, _, _, rfl⟩, by exact T.congr fun s d _ _ => rfl⟩ (fun i σ H' ⟨_, T'⟩ => T'.same _ _ ht) ?_ ?_⟩
      · rintro i x σ H2 X hi ⟨⟨x4, x5, x6, x7, x8, x9, x10, x11, rfl⟩, T2⟩ nX
        have T3 := T2.keep (same_upd (o := HO.tup [.int (i : Nat), x]) nX)
        have hil : i < ts.length := (List.getElem?_eq_some_iff.mp hi).1
        have hlen := hP.length
        have hio : os[i]? = some (os[i]'(by omega)) := List.getElem?_eq_getElem (by omega)
        obtain ⟨x', hx', y, rfl, hy⟩ := Paired.get? (i := i) hP hio
        obtain rfl : V.ref y = x := Option.some.inj (hx'.symm.trans hi)
        generalize eo : os[i]'(by omega) = o at hio hy
        have hk : OdOk p h o := by rw [← eo]; exact N.ok _ (List.getElem_mem _)
        have k1 := hk.s; have k4 := hk.f; have k5 := hk.n1; have k6 := hk.n
        have hy3 := T3.same _ _ hy
        refine ⟨X, _, rfl, SqT.of upd_same, rfl, _, _, rfl, _, _, rfl, ⟨y, _, rfl, SqT.of hy3, rfl, _, _, rfl, _, _, rfl, _, _, rfl, _, _, rfl, _, _, rfl, rfl, rfl, ?_⟩⟩
        refine ⟨_, rfl, o.n, rfl, by omega, by omega, for_range (lo := 0) (n := (o.n : Int).toNat) (fun l σ H' => (∃ x10 x11, σ = [some (.int p), some (.int h), some (.ref t), some (.ref D), some (.int (i : Nat)), some (.int o.s), some (.int o.t), some (.int o.f), some (.int o.n), some (.int o.e), x10, x11, none]) ∧ TabAt H H' D p h (cellM p (os.take i) o i l) as)
          ⟨⟨_, _, rfl⟩, T3.congr fun s d _ _ => ?_⟩ ?_ ?_⟩
        · show optV (idx p (os.take i) s d) = optV ((idx p (os.take i) s d).or (if (decide (s = o.s) && false) = true then some i else none))
          rw [Bool.and_false, if_neg Bool.false_ne_true, Option.or_none]
        · rintro l σ H4 hl ⟨⟨x10, x11, rfl⟩, T4⟩
          have hl2 : l < o.n := by omega
          refine ⟨_, rfl, _, rfl, _, _, rfl, rfl, _, rfl, _, _, rfl, rfl, by omega, ?_⟩
          have ed : Int.fmod ((o.f : Int) + (0 + (l : Int))) (p : Int) = (((o.f + l) % p : Nat) : Int) := by
            rw [Int.zero_add]
            exact fmod_nat (o.f + l) p
          have hd : (o.f + l) % p < p := Nat.mod_lt _ (by omega)
          generalize hdd : (o.f + l) % p = dd at ed hd
          have hsl : o.s < as.length := by rw [T4.len]; exact k1
          have ha := List.getElem?_eq_getElem hsl
          generalize as[o.s] = a at ha
          have hmap : (as.map V.ref)[o.s]? = some (.ref a) := by rw [List.getElem?_map, ha]; rfl
          have hrow := T4.row _ _ ha
          have hcell : ((List.range p).map (cellM p (os.take i) o i l o.s))[dd]? = some (cellM p (os.take i) o i l o.s dd) := by
            rw [List.getElem?_map, List.getElem?_range hd]
            rfl
          show ∃ v, _
          refine ⟨_, rfl, _, rfl, D, _, _, _, rfl, rfl, SqL.of T4.flat, atI_nat hmap, ?_⟩
          refine ⟨_, rfl, a, _, (dd : Int), _, rfl, by rw [← ed], SqL.of hrow, atI_nat hcell, ?_⟩
          refine ⟨rfl, _, rfl, ite2 (fun e => ?_) (fun e => ?_)⟩
          · have en : cellM p (os.take i) o i l o.s dd = .non := of_decide_eq_true e
            refine ⟨_, rfl, _, rfl, _, rfl, D, _, _, _, rfl, rfl, SqL.of T4.flat, atI_nat hmap, ?_⟩
            refine ⟨_, rfl, a, _, (dd : Int), dd, rfl, by rw [← ed], hrow, ix_at (by rw [List.length_map, List.length_range]; exact hd), ?_⟩
            refine ⟨⟨_, _, rfl⟩, (T4.set ha).congr fun s d hs hd2 => ?_⟩
            subst hdd
            exact cellM_hit en
          · refine ⟨⟨_, _, rfl⟩, T4.congr fun s d hs hd2 => ?_⟩
            subst hdd
            exact cellM_miss (fun z => e (decide_eq_true z))
        · rintro σ H4 ⟨⟨x10, x11, rfl⟩, T4⟩
          exact ⟨⟨_, _, _, _, _, _, _, _, rfl⟩, T4.congr fun s d hs hd => cellM_end hk hio hd⟩
      · rintro σ H2 ⟨⟨x4, x5, x6, x7, x8, x9, x10, x11, rfl⟩, T2⟩
        refine ⟨_, rfl, q _ D as (T2.congr fun s d _ _ => ?_)⟩
        rw [List.take_of_length_le (by rw [← hP.length]; exact Nat.le_refl _)]
end
abbrev s_Net_init : Stmt := inClass (top 34) 0
abbrev N_Net_init : List Str := ["self", "period", "houses", "orders"]
abbrev P_Net_init : List Str := ["self", "period", "houses", "orders"]
theorem sc_Net_init : FnScope N_Net_init P_Net_init (defScope s_Net_init) := ⟨rfl, rfl, rfl, by decide +kernel, rfl, by decide +kernel, by decide +kernel⟩
/-! ### a net, made and read -/
def NetFs (p h : Nat) (t fl : Addr) : List (Str × V) := putF "followed" (.ref fl) (putF "orders" (.ref t) (putF "houses" (.int h) (putF "period" (.int p) [])))
theorem sFO : ¬ ("orders" : Str) = "followed" := by decide +kernel
theorem sFH : ¬ ("houses" : Str) = "followed" := by decide +kernel
theorem sFP : ¬ ("period" : Str) = "followed" := by decide +kernel
theorem sOH : ¬ ("houses" : Str) = "orders" := by decide +kernel
theorem sOP : ¬ ("period" : Str) = "orders" := by decide +kernel
theorem sHP : ¬ ("period" : Str) = "houses" := by decide +kernel
theorem nf_fl {p h : Nat} {t fl : Addr} : (NetFs p h t fl).lookup ("followed" : Str) = some (.ref fl) := by
  unfold NetFs
  rw [lookup_putF, if_pos rfl]
theorem nf_or {p h : Nat} {t fl : Addr} : (NetFs p h t fl).lookup ("orders" : Str) = some (.ref t) := by
  unfold NetFs
  rw [lookup_putF, if_neg sFO, lookup_putF, if_pos rfl]
theorem nf_ho {p h : Nat} {t fl : Addr} : (NetFs p h t fl).lookup ("houses" : Str) = some (.int h) := by
  unfold NetFs
  rw [lookup_putF, if_neg sFH, lookup_putF, if_neg sOH, lookup_putF, if_pos rfl]
theorem nf_pe {p h : Nat} {t fl : Addr} : (NetFs p h t fl).lookup ("period" : Str) = some (.int p) := by
  unfold NetFs
  rw [lookup_putF, if_neg sFP, lookup_putF, if_neg sOP, lookup_putF, if_neg sHP, lookup_putF, if_pos rfl]
theorem nf_no {p h : Nat} {t fl : Addr} {m : Str} (h1 : ¬ m = "followed") (h2 : ¬ m = "orders") (h3 : ¬ m = "houses") (h4 : ¬ m = "period") : (NetFs p h t fl).lookup m = none := by
  unfold NetFs
  rw [lookup_putF, if_neg h1, lookup_putF, if_neg h2, lookup_putF, if_neg h3, lookup_putF, if_neg h4]
  rfl
/-- what the class says -/
structure NetT (K : PySem.W.Frag) (C : Addr) : Prop where
  cl : Cls K C
  nP : NoAttr K C "period"
  nH : NoAttr K C "houses"
  nO : NoAttr K C "orders"
  nF : NoAttr K C "followed"
/-- a net of these parts at x; F: its own addresses -/
def NetAt (C : Addr) (H : Hp) (x : Addr) (p h : Nat) (os : List Od) (t : Addr) (F : List Addr) : Prop := ∃ dx fl as, F = x :: fl :: as ∧ H x = some (.ins C dx (NetFs p h t fl)) ∧ OrdsTup H t os ∧
  H fl = some (.lst (as.map V.ref)) ∧ as.length = h ∧ ∀ i a, as[i]? = some a → H a = some (.lst ((List.range p).map (cellV p os i)))
theorem NetAt.keep {C : Addr} {H H' : Hp} {x : Addr} {p h : Nat} {os : List Od} {t : Addr} {F : List Addr} (N : NetAt C H x p h os t F) (k : TupKeep H H') (kf : ∀ b ∈ F, ∀ o, H b = some o → H' b = some o) : NetAt C H' x p h os t F := by
  obtain ⟨dx, fl, as, rfl, h1, h2, h3, h4, h5⟩ := N
  refine ⟨dx, fl, as, rfl, kf _ (by simp) _ h1, h2.keep k, kf _ (by simp) _ h3, h4, fun i a hi => kf _ ?_ _ (h5 i a hi)⟩
  exact List.mem_cons_of_mem _ (List.mem_cons_of_mem _ (List.mem_of_getElem? hi))
theorem NetAt.same {C : Addr} {H H' : Hp} {x : Addr} {p h : Nat} {os : List Od} {t : Addr} {F : List Addr} (N : NetAt C H x p h os t F) (s : Same H H') : NetAt C H' x p h os t F := N.keep (tk_of s) fun b _ o e => s b o e
theorem NetAt.but {C : Addr} {H H' : Hp} {x : Addr} {p h : Nat} {os : List Od} {t d : Addr} {F : List Addr} (N : NetAt C H x p h os t F) (s : But d H H') (k : TupKeep H H') (n : d ∉ F) : NetAt C H' x p h os t F := N.keep k fun b hb o e => s b o (fun z => n (z ▸ hb)) e
theorem NetAt.new {C : Addr} {H : Hp} {x : Addr} {p h : Nat} {os : List Od} {t u : Addr} {F : List Addr} (N : NetAt C H x p h os t F) (n : H u = none) : u ∉ F := by
  obtain ⟨dx, fl, as, rfl, h1, h2, h3, h4, h5⟩ := N
  intro z
  rcases List.mem_cons.mp z with z | z
  · exact ne_of_none h1 n z.symm
  rcases List.mem_cons.mp z with z | z
  · exact ne_of_none h3 n z.symm
  obtain ⟨j, hj⟩ := List.getElem?_of_mem z
  exact ne_of_none (h5 j u hj) n rfl
def spInit (C : Addr) : Sp := fun vs H Q _ => ∃ (x dx t : Addr) (p h : Nat) (os : List Od) (H0 : Hp), vs = [.ref x, .int p, .int h, .ref t] ∧ NetOk p h os ∧ OrdsTup H t os ∧ Same H0 H ∧ H0 x = none ∧ H x = some (.ins C dx []) ∧
  ∀ H' F, Same H0 H' → (∀ b ∈ F, H0 b = none) → NetAt C H' x p h os t F → Q .non H'
section
variable {P : Program} {w : World} {K : PySem.W.Frag} {mg : Str → Option Value} {base : Heap}
theorem ok_init {f C : Addr} {fd : FuncData} (F : Fun K "__init__" "Net.__init__" s_Net_init f fd) (T : NetT K C) (DW : Df P w K mg base "is_within" 2 P_is_within (spWithin K)) (DC : Df P w K mg base "check_orders" 4 P_check_orders spChkOrders)
    (DF : Df P w K mg base "find_followed" 2 P_find_followed spFollowed) (hP : ∃ t, mg "LONGEST_PERIOD" = some (.int 30 t)) (hH : ∃ t, mg "MOST_HOUSES" = some (.int 10 t)) : FnOk P w K mg base CX0 5 f fd P_Net_init (spInit C) := by
  obtain ⟨fW, fdW, gW, kW, bW, GW⟩ := DW
  obtain ⟨fC, fdC, gC, kC, bC, GC⟩ := DC
  obtain ⟨fF, fdF, gF, kF, bF, GF⟩ := DF
  obtain ⟨tkP, hP⟩ := hP
  obtain ⟨tkH, hH⟩ := hH
  refine F.ok sc_Net_init (fun vs H Q E h => ?_) (fun cdv A outer s H vs Q E hr h => ?_)
  · obtain ⟨x, dx, t, p, h, os, H0, rfl, _⟩ := h
    rfl
  · obtain ⟨x, dx, t, p, h, os, H0, rfl, N, hO, s0, x0, hx, q⟩ := h
    have hr1 : Room 2 _ := hr.mono (by decide)
    refine ⟨_, pss_cons (ps_if (pt_not (pt_val (pe_call GW hr1 (by rfl) gW kW bW .nil pass0 (pa_cons (pv 1) (pa_cons pe_int (pa_cons (pe_glob (v := .int 30) rfl hP ⟨_, rfl⟩) pa_nil)))))) (pss_one ps_never) pss_nil)
      (pss_cons (ps_if (pt_not (pt_val (pe_call GW hr1 (by rfl) gW kW bW .nil pass0 (pa_cons (pv 2) (pa_cons pe_int (pa_cons (pe_glob (v := .int 10) rfl hH ⟨_, rfl⟩) pa_nil)))))) (pss_one ps_never) pss_nil)
      (pss_cons (ps_expr (pe_call GC hr (by rfl) gC kC bC .nil pass0 (pa_cons (pv 1) (pa_cons (pv 2) (pa_cons (pv 3) pa_nil)))))
      (pss_cons (ps_fld (pv 0) (pv 1) rfl) (pss_cons (ps_fld (pv 0) (pv 2) rfl) (pss_cons (ps_fld (pv 0) (pv 3) rfl)
      (pss_one (ps_fld (pv 0) (pe_call GF hr1 (by rfl) gF kF bF .nil pass0 (pa_cons (pv 1) (pa_cons (pv 2) (pa_cons (pv 3) pa_nil)))) rfl))))))), ?_⟩
    have w1 : withinB (.int p) 1 30 = true := within_nat (lo := 1) (hi := 30) N.p1 N.p30
    have w2 : withinB (.int h) 1 10 = true := within_nat (lo := 1) (hi := 10) N.h1 N.h10
    refine ⟨_, rfl, .int p, 1, 30, rfl, .int, _, rfl, ?_⟩
    rw [w1]
    refine iteF ⟨_, rfl, .int h, 1, 10, rfl, .int, _, rfl, ?_⟩
    rw [w2]
    refine iteF ⟨_, rfl, _, rfl, _, rfl, t, p, h, os, rfl, N, hO, fun H1 s1 => ?_⟩
    have hx1 := s1 _ _ hx
    have nt : t ≠ x := by
      obtain ⟨ts, ht, _⟩ := hO
      exact ne_of ht hx (by intro z; cases z)
    refine ⟨_, rfl, _, rfl, x, C, dx, [], rfl, hx1, T.cl, T.nP, (by show 0 < 1000; decide), ?_⟩
    refine ⟨_, rfl, _, rfl, x, C, dx, _, rfl, upd_same, T.cl, T.nH, (by show 1 < 1000; decide), ?_⟩
    refine ⟨_, rfl, _, rfl, x, C, dx, _, rfl, upd_same, T.cl, T.nO, ?_, ?_⟩
    · show (putF "houses" _ (putF "period" _ [])).length < 1000
      have : (putF "houses" (.int (h : Int)) (putF "period" (.int (p : Int)) [])).length ≤ 2 := by
        show (if ("period" : Str) = "houses" then _ else _ : List (Str × V)).length ≤ 2
        rw [if_neg sHP]
        exact Nat.le_refl _
      omega
    rw [upd_upd, upd_upd]
    refine ⟨_, rfl, _, rfl, _, rfl, t, p, h, os, rfl, N, ?_, fun H2 fl as TT => ?_⟩
    · refine hO.keep fun b xs e => ?_
      have e1 := s1 _ _ e
      rw [upd_ne (ne_of e1 hx1 (by intro z; cases z))]
      exact e1
    have hx2 := TT.same _ _ (upd_same (H := H1) (a := x))
    have hflx : fl ≠ x := fun z => by
      have q1 := TT.fl0
      rw [z, upd_same] at q1
      cases q1
    have hasx : ∀ a ∈ as, a ≠ x := fun a ha z => by
      have q1 := TT.new a ha
      rw [z, upd_same] at q1
      cases q1
    refine ⟨_, rfl, x, C, dx, _, rfl, hx2, T.cl, T.nF, ?_, ?_⟩
    · show (putF "orders" _ (putF "houses" _ (putF "period" _ []))).length < 1000
      have : (putF "orders" (.ref t) (putF "houses" (.int (h : Int)) (putF "period" (.int (p : Int)) []))).length ≤ 3 := by
        show (putF "orders" (V.ref t) (if ("period" : Str) = "houses" then _ else _ : List (Str × V))).length ≤ 3
        rw [if_neg sHP]
        show (if ("period" : Str) = "orders" then _ else _ :: (if ("houses" : Str) = "orders" then _ else _) : List (Str × V)).length ≤ 3
        rw [if_neg sOP, if_neg sOH]
        exact Nat.le_refl _
      omega
    have free : ∀ b, b ≠ x → (L2.upd H1 x (.ins C dx (putF "orders" (.ref t) (putF "houses" (.int (h : Int)) (putF "period" (.int (p : Int)) []))))) b = none → H0 b = none := fun b nb e => by
      rw [upd_ne nb] at e
      exact s0.free (s1.free e)
    refine q _ (x :: fl :: as) (fun b o e => ?_) (fun b hb => ?_) ⟨dx, fl, as, rfl, upd_same, ?_, ?_, TT.len, fun i a hi => ?_⟩
    · have nb : b ≠ x := ne_of_none e x0
      rw [upd_ne nb]
      refine TT.same _ _ ?_
      rw [upd_ne nb]
      exact s1 _ _ (s0 _ _ e)
    · rcases List.mem_cons.mp hb with z | z
      · rw [z]; exact x0
      rcases List.mem_cons.mp z with z | z
      · rw [z]; exact free fl hflx TT.fl0
      · exact free b (hasx b z) (TT.new b z)
    · refine hO.keep fun b xs e => ?_
      have e1 := s1 _ _ e
      have nb : b ≠ x := ne_of e1 hx1 (by intro z; cases z)
      rw [upd_ne nb]
      refine TT.same _ _ ?_
      rw [upd_ne nb]
      exact e1
    · rw [upd_ne hflx]
      exact TT.flat
    · rw [upd_ne (hasx a (List.mem_of_getElem? hi))]
      exact TT.row i a hi
end
/-! ### the table, read -/
/-- where the table is read: followed[a][d % period] -/
theorem cell_read {C : Addr} {H : Hp} {x t : Addr} {p h a : Nat} {os : List Od} {F : List Addr} (N : NetAt C H x p h os t F) (ha : a < h) (hp : 0 < p) (d : Nat) : ∃ dx fl rows ro row, H x = some (.ins C dx (NetFs p h t fl)) ∧ H fl = some (.lst rows) ∧ rows[a]? = some (.ref ro) ∧ H ro = some (.lst row) ∧
    row[d % p]? = some (optV (idx p os a (d : Int))) := by
  obtain ⟨dx, fl, as, _, hx, _, hfl, hlen, hr⟩ := N
  have hal : a < as.length := by omega
  have e := List.getElem?_eq_getElem hal
  refine ⟨dx, fl, _, as[a], _, hx, hfl, by rw [List.getElem?_map, e]; rfl, hr a _ e, ?_⟩
  rw [List.getElem?_map, List.getElem?_range (Nat.mod_lt _ hp)]
  show some (optV (idx p os a ((d % p : Nat) : Int))) = _
  rw [idx_nat]
abbrev s_check_house : Stmt := top 11
abbrev N_check_house : List Str := ["net", "house"]
abbrev P_check_house : List Str := ["net", "house"]
theorem sc_check_house : FnScope N_check_house P_check_house (defScope s_check_house) := ⟨rfl, rfl, rfl, by decide +kernel, rfl, by decide +kernel, by decide +kernel⟩
abbrev s_check_day : Stmt := top 12
abbrev N_check_day : List Str := ["day"]
abbrev P_check_day : List Str := ["day"]
theorem sc_check_day : FnScope N_check_day P_check_day (defScope s_check_day) := ⟨rfl, rfl, rfl, by decide +kernel, rfl, by decide +kernel, by decide +kernel⟩
abbrev s_check_letter : Stmt := top 13
abbrev N_check_letter : List Str := ["net", "house", "day"]
abbrev P_check_letter : List Str := ["net", "house", "day"]
theorem sc_check_letter : FnScope N_check_letter P_check_letter (defScope s_check_letter) := ⟨rfl, rfl, rfl, by decide +kernel, rfl, by decide +kernel, by decide +kernel⟩
/-! ### letters: checks, the order followed, one hop, idle orders -/
def spHouse (C : Addr) : Sp := fun vs H Q _ => ∃ (x t : Addr) (p h a : Nat) (os : List Od) (F : List Addr), vs = [.ref x, .int a] ∧ NetAt C H x p h os t F ∧ a < h ∧ Q .non H
def spDay : Sp := fun vs H Q _ => ∃ (d : Nat), vs = [.int d] ∧ d ≤ 1000000000000000000 ∧ Q .non H
def spLetter (C : Addr) : Sp := fun vs H Q _ => ∃ (x t : Addr) (p h a d : Nat) (os : List Od) (F : List Addr), vs = [.ref x, .int a, .int d] ∧ NetAt C H x p h os t F ∧ a < h ∧ d ≤ 1000000000000000000 ∧ Q .non H
section
variable {P : Program} {w : World} {K : PySem.W.Frag} {mg : Str → Option Value} {base : Heap}
theorem ok_house {f C : Addr} {fd : FuncData} (F : Fun K "check_house" "check_house" s_check_house f fd) (T : NetT K C) (DW : Df P w K mg base "is_within" 2 P_is_within (spWithin K)) : FnOk P w K mg base CX0 3 f fd P_check_house (spHouse C) := by
  obtain ⟨fW, fdW, gW, kW, bW, GW⟩ := DW
  refine F.ok sc_check_house (fun vs H Q E h => ?_) (fun cdv A outer s H vs Q E hr h => ?_)
  · obtain ⟨x, t, p, h, a, os, F, rfl, _⟩ := h
    rfl
  · obtain ⟨x, t, p, h, a, os, F, rfl, ⟨dx, fl, as, _, hx, _⟩, ha, q⟩ := h
    refine ⟨_, pss_one (ps_if (pt_not (pt_val (pe_call GW hr (by rfl) gW kW bW .nil pass0 (pa_cons (pv 1) (pa_cons pe_int (pa_cons (pe_op op_sub (pe_fld (pv 0) rfl) pe_int) pa_nil)))))) (pss_one ps_never) pss_nil), ?_⟩
    have w1 : withinB (.int a) 0 ((h : Int) - 1) = true := by
      rw [show ((h : Int) - 1) = ((h - 1 : Nat) : Int) by omega]
      exact within_nat (lo := 0) (Nat.zero_le _) (by omega)
    refine ⟨_, rfl, _, rfl, x, C, dx, _, _, rfl, hx, T.cl, T.nH, nf_ho, _, _, rfl, rfl, .int a, 0, (h : Int) - 1, rfl, .int, _, rfl, ?_⟩
    rw [w1]
    exact iteF q
theorem ok_day {f : Addr} {fd : FuncData} (F : Fun K "check_day" "check_day" s_check_day f fd) (DW : Df P w K mg base "is_within" 2 P_is_within (spWithin K)) (hL : ∃ t, mg "LAST_DAY" = some (.int 1000000000000000000 t)) : FnOk P w K mg base CX0 3 f fd P_check_day spDay := by
  obtain ⟨fW, fdW, gW, kW, bW, GW⟩ := DW
  obtain ⟨tkL, hL⟩ := hL
  refine F.ok sc_check_day (fun vs H Q E h => ?_) (fun cdv A outer s H vs Q E hr h => ?_)
  · obtain ⟨d, rfl, _⟩ := h
    rfl
  · obtain ⟨d, rfl, hd, q⟩ := h
    refine ⟨_, pss_one (ps_if (pt_not (pt_val (pe_call GW hr (by rfl) gW kW bW .nil pass0 (pa_cons (pv 0) (pa_cons pe_int (pa_cons (pe_glob (v := .int 1000000000000000000) rfl hL ⟨_, rfl⟩) pa_nil)))))) (pss_one ps_never) pss_nil), ?_⟩
    have w1 : withinB (.int d) 0 1000000000000000000 = true := within_nat (lo := 0) (hi := 1000000000000000000) (Nat.zero_le _) hd
    refine ⟨_, rfl, .int d, 0, 1000000000000000000, rfl, .int, _, rfl, ?_⟩
    rw [w1]
    exact iteF q
theorem ok_letter {f C : Addr} {fd : FuncData} (F : Fun K "check_letter" "check_letter" s_check_letter f fd) (DH : Df P w K mg base "check_house" 3 P_check_house (spHouse C)) (DD : Df P w K mg base "check_day" 3 P_check_day spDay) : FnOk P w K mg base CX0 4 f fd P_check_letter (spLetter C) := by
  obtain ⟨fH, fdH, gH, kH, bH, GH⟩ := DH
  obtain ⟨fD, fdD, gD, kD, bD, GD⟩ := DD
  refine F.ok sc_check_letter (fun vs H Q E h => ?_) (fun cdv A outer s H vs Q E hr h => ?_)
  · obtain ⟨x, t, p, h, a, d, os, F, rfl, _⟩ := h
    rfl
  · obtain ⟨x, t, p, h, a, d, os, F, rfl, N, ha, hd, q⟩ := h
    refine ⟨_, pss_cons (ps_expr (pe_call GH hr (by rfl) gH kH bH .nil pass0 (pa_cons (pv 0) (pa_cons (pv 1) pa_nil)))) (pss_one (ps_expr (pe_call GD hr (by rfl) gD kD bD .nil pass0 (pa_cons (pv 2) pa_nil)))), ?_⟩
    exact ⟨_, rfl, _, rfl, x, t, p, h, a, os, F, rfl, N, ha, _, rfl, d, rfl, hd, q⟩
end
abbrev s_Net_stop_after : Stmt := inClass (top 34) 2
abbrev N_Net_stop_after : List Str := ["self", "house", "day", "index", "source", "target", "first", "days", "delay"]
abbrev P_Net_stop_after : List Str := ["self", "house", "day"]
theorem sc_Net_stop_after : FnScope N_Net_stop_after P_Net_stop_after (defScope s_Net_stop_after) := ⟨rfl, rfl, rfl, by decide +kernel, rfl, by decide +kernel, by decide +kernel⟩
section
variable {P : Program} {w : World} {K : PySem.W.Frag} {mg : Str → Option Value} {base : Heap}
/-- a stop, or None -/
def StopV (H H' : Hp) (v : V) : Option (Nat × Nat) → Prop
  | none => v = .non
  | some s => ∃ u, v = .ref u ∧ H u = none ∧ H' u = some (.tup [.int s.1, .int s.2])
def spStop (C : Addr) : Sp := fun vs H Q _ => ∃ (x t : Addr) (p h a d : Nat) (os : List Od) (F : List Addr), vs = [.ref x, .int a, .int d] ∧ NetAt C H x p h os t F ∧ 0 < p ∧ a < h ∧
  ∀ H' v, Same H H' → StopV H H' v (hop p os (a, d)) → Q v H'
theorem ok_stop_after {f C : Addr} {fd : FuncData} (F : Fun K "stop_after" "Net.stop_after" s_Net_stop_after f fd) (T : NetT K C) : FnOk P w K mg base CX0 2 f fd P_Net_stop_after (spStop C) := by
  refine F.ok sc_Net_stop_after (fun vs H Q E h => ?_) (fun cdv A outer s H vs Q E hr h => ?_)
  · obtain ⟨x, t, p, h, a, d, os, F, rfl, _⟩ := h
    rfl
  · obtain ⟨x, t, p, h, a, d, os, F, rfl, N, hp, ha, q⟩ := h
    refine ⟨_, pss_cons (ps_set (i := 3) sc_Net_stop_after.nd rfl (.inl rfl) (pe_ix ix_list (pe_ix ix_list (pe_fld (pv 0) rfl) (pv 1) (fun _ _ => rfl)) (pe_op op_modN (pv 2) (pe_fld (pv 0) rfl)) (fun _ _ => rfl)))
      (pss_cons (ps_if (pt_cmpR op_isN (pv 3) pe_non (nomark _)) (pss_one (ps_ret pe_non)) pss_nil)
      (pss_cons (ps_asg (pe_ix ix_tup (pe_fld (pv 0) rfl) (pv 3) (fun _ _ => rfl)) (pg_tup (by rfl) (pgs_cons (pg_name (i := 4) sc_Net_stop_after.nd rfl (.inl rfl)) (pgs_cons (pg_name (i := 5) sc_Net_stop_after.nd rfl (.inl rfl)) (pgs_cons (pg_name (i := 6) sc_Net_stop_after.nd rfl (.inl rfl))
        (pgs_cons (pg_name (i := 7) sc_Net_stop_after.nd rfl (.inl rfl)) (pgs_cons (pg_name (i := 8) sc_Net_stop_after.nd rfl (.inl rfl)) pgs_nil)))))))
      (pss_one (ps_ret (pe_tup (pa_cons (pv 5) (pa_cons (pe_op op_add (pv 2) (pv 8)) pa_nil))))))), ?_⟩
    obtain ⟨dx, fl, rows, ro, row, hx, hfl, hrows, hro, hrow⟩ := cell_read N ha hp d
    obtain ⟨_, _, _, _, hx', ⟨ts, ht, hP⟩, _⟩ := N
    refine ⟨_, rfl, x, C, dx, _, _, rfl, hx, T.cl, T.nF, nf_fl, _, rfl, fl, _, _, _, rfl, rfl, SqL.of hfl, atI_nat hrows, ?_⟩
    refine ⟨_, rfl, _, rfl, x, C, dx, _, _, rfl, hx, T.cl, T.nP, nf_pe, _, _, rfl, rfl, by omega, ?_⟩
    refine ⟨ro, _, ((d % p : Nat) : Int), _, rfl, ?_, SqL.of hro, atI_nat hrow, ?_⟩
    · show V.int ((d : Int).fmod (p : Int)) = _
      rw [fmod_nat]
    refine ⟨_, rfl, rfl, _, rfl, ?_⟩
    unfold hop at q
    cases e : idx p os a (d : Int) with
    | none =>
      simp only [e] at q
      exact iteT (q H .non (.refl H) rfl)
    | some k =>
      simp only [e] at q
      have hk := idx_lt e
      have hko := List.getElem?_eq_getElem hk
      obtain ⟨v, hv, u, rfl, hu⟩ := Paired.get? (i := k) hP hko
      rw [hko] at q
      generalize os[k] = o at q hu
      refine iteF ⟨_, rfl, x, C, dx, _, _, rfl, hx, T.cl, T.nO, nf_or, _, rfl, t, ts, _, _, rfl, rfl, SqT.of ht, atI_nat hv, ?_⟩
      refine ⟨u, _, rfl, SqT.of hu, rfl, _, _, rfl, _, _, rfl, _, _, rfl, _, _, rfl, _, _, rfl, rfl, ?_⟩
      refine ⟨_, rfl, _, rfl, _, rfl, _, _, rfl, rfl, (by show 2 ≤ sizeLine; decide), fun y ny => ?_⟩
      refine q _ _ (same_upd ny) ⟨y, rfl, ny, ?_⟩
      rw [upd_same]
      show some (HO.tup [V.int o.t, V.int ((d : Int) + (o.e : Int))]) = some (HO.tup [V.int o.t, V.int ((d + o.e : Nat) : Int)])
      rw [Int.natCast_add]
end
abbrev s_Net_idle_orders : Stmt := inClass (top 34) 4
abbrev N_Net_idle_orders : List Str := ["self", "used", "days", "index"]
abbrev P_Net_idle_orders : List Str := ["self"]
theorem sc_Net_idle_orders : FnScope N_Net_idle_orders P_Net_idle_orders (defScope s_Net_idle_orders) := ⟨rfl, rfl, rfl, by decide +kernel, rfl, by decide +kernel, by decide +kernel⟩
/-! ### idle orders -/
theorem set3 {α : Type} (l : List α) {x y : Nat} (v n m : α) (h : x ≠ y) : ((l.set x v).set y n).set x m = (l.set y n).set x m := by
  rw [List.set_comm v n h, List.set_set]
theorem lc2_rows {K : PySem.W.Frag} {a D : Addr} {rows : List Addr} {rs : List (List V)} {σ : L2.St} {H1 : Hp} {x y : Nat} {Q : Hp → Prop} (hl : H1 a = some (.lst (rows.map V.ref))) (hlen : rows.length = rs.length) (hr : ∀ (i : Nat) (b : Addr) (r : List V), (rows[i]? : Option Addr) = some b → (rs[i]? : Option (List V)) = some r → H1 b = some (.lst r)) (nD : H1 D = none)
    (hx : x < σ.length) (hy : y < σ.length) (hxy : x ≠ y) (sz : rs.flatten.length < sizeLine) (hQ : Q (upd H1 D (.lst rs.flatten))) :
    ∃ W : Nat → Nat → Hp → Prop, (∃ m, W 0 m (upd H1 D (.lst []))) ∧ ∀ i m H, W i m H →
      ((Itl K a).stop i H ∧ Q H) ∨ ((Itl K a).go i H ∧ ∃ Nx : Hp → Prop, (∀ H', Nx H' → ∃ m', m' < m ∧ W (i + 1) m' H') ∧ ∀ v H', (Itl K a).yld i H v H' → gName x v (wipe σ [x, y]) H' fun σ2 H2 => wipe σ2 [x, y] = wipe σ [x, y] ∧ tYes σ2 H2 fun b H3 =>
        if b = true then iList K (tVar x) σ2 H3 fun J1 H4 => ∃ W1 : Nat → Nat → Hp → Prop, (∃ m, W1 0 m H4) ∧ ∀ j k H, W1 j k H →
          (J1.stop j H ∧ Nx H) ∨ (J1.go j H ∧ ∃ Nx1 : Hp → Prop, (∀ H', Nx1 H' → ∃ k', k' < k ∧ W1 (j + 1) k' H') ∧ ∀ v H', J1.yld j H v H' → gName y v (wipe σ2 [y]) H' fun σ3 H5 => wipe σ3 [y] = wipe σ2 [y] ∧ tYes σ3 H5 fun b H6 =>
            if b = true then tVar y σ3 H6 fun z H7 => ∃ acc, H7 D = some (.lst acc) ∧ acc.length < sizeLine ∧ Nx1 (upd H7 D (.lst (acc ++ [z]))) else Nx1 H6)
        else Nx H3) := by
  have naD : a ≠ D := ne_of_none hl nD
  have hwl : (wipe σ [x, y]).length = σ.length := wipe_length σ _
  refine ⟨fun i m H => m = rows.length - i ∧ i ≤ rows.length ∧ H = upd H1 D (.lst (rs.take i).flatten), ⟨rows.length, rfl, Nat.zero_le _, rfl⟩, ?_⟩
  rintro i m H ⟨rfl, hi, rfl⟩
  have ha : (upd H1 D (.lst (rs.take i).flatten)) a = some (.lst (rows.map V.ref)) := by rw [upd_ne naD]; exact hl
  by_cases lt : i < rows.length
  · have eb := List.getElem?_eq_getElem lt
    have er := List.getElem?_eq_getElem (show i < rs.length by omega)
    generalize rows[i] = b at eb
    generalize hrr : rs[i]'(by omega) = r at er
    have hbr := hr i b r eb er
    have nbD : b ≠ D := ne_of_none hbr nD
    have em : (rows.map V.ref)[i]? = some (.ref b) := by rw [List.getElem?_map, eb]; rfl
    have etake : (rs.take (i + 1)).flatten = (rs.take i).flatten ++ r := by
      rw [List.take_add_one, er, Option.toList_some, List.flatten_append]
      simp
    have hle : ((rs.take i).flatten ++ r).length ≤ rs.flatten.length := by
      rw [← etake]
      have e : rs.flatten = (rs.take (i + 1)).flatten ++ (rs.drop (i + 1)).flatten := by rw [← List.flatten_append, List.take_append_drop]
      rw [e, List.length_append]
      exact Nat.le_add_right _ _
    refine .inr ⟨⟨_, _, SqL.of ha, em⟩, fun H' => H' = upd H1 D (.lst (rs.take (i + 1)).flatten), fun H' e => ⟨rows.length - (i + 1), by omega, rfl, lt, e⟩, fun v H' hy' => ?_⟩
    obtain ⟨rfl, fv⟩ := hy'
    obtain rfl : v = .ref b := Option.some.inj ((fv _ (SqL.of ha)).symm.trans em)
    refine ⟨?_, ?_⟩
    · show wipe ((wipe σ [x, y]).set x _) [x, y] = wipe σ [x, y]
      show ((((wipe σ [x, y]).set x _).set y none).set x none) = (σ.set y none).set x none
      show (((((σ.set y none).set x none).set x _).set y none).set x none) = (σ.set y none).set x none
      rw [List.set_set, set3 _ _ _ _ hxy, List.set_set]
    · have hb2 : (upd H1 D (.lst (rs.take i).flatten)) b = some (.lst r) := by rw [upd_ne nbD]; exact hbr
      refine ⟨.ref b, ?_, b, rfl, ⟨_, SqL.of hb2⟩, ?_⟩
      · rw [List.getElem?_set_self (by omega)]
      refine ⟨fun j k H => k = r.length - j ∧ j ≤ r.length ∧ H = upd H1 D (.lst ((rs.take i).flatten ++ r.take j)), ⟨r.length, rfl, Nat.zero_le _, by rw [List.take_zero, List.append_nil]⟩, ?_⟩
      rintro j k H ⟨rfl, hj, rfl⟩
      have hb3 : (upd H1 D (.lst ((rs.take i).flatten ++ r.take j))) b = some (.lst r) := by rw [upd_ne nbD]; exact hbr
      by_cases lj : j < r.length
      · have ej := List.getElem?_eq_getElem lj
        refine .inr ⟨⟨_, _, SqL.of hb3, ej⟩, fun H' => H' = upd H1 D (.lst ((rs.take i).flatten ++ r.take (j + 1))), fun H' e => ⟨r.length - (j + 1), by omega, rfl, lj, e⟩, fun v H' hy' => ?_⟩
        obtain ⟨rfl, fv⟩ := hy'
        have ev : v = r[j] := Option.some.inj ((fv _ (SqL.of hb3)).symm.trans ej)
        subst ev
        refine ⟨?_, ?_⟩
        · show ((wipe ((wipe σ [x, y]).set x _) [y]).set y _).set y none = _
          rw [List.set_set]
          show ((((wipe σ [x, y]).set x _).set y none).set y none) = (((wipe σ [x, y]).set x _).set y none)
          rw [List.set_set]
        · refine ⟨r[j], ?_, _, upd_same, ?_, ?_⟩
          · rw [List.getElem?_set_self (by simp only [wipe_length, List.length_set]; exact hy)]
          · rw [List.length_append, List.length_take]
            rw [List.length_append] at hle
            omega
          · rw [upd_upd, List.append_assoc, List.take_add_one, ej]
            rfl
      · refine .inl ⟨⟨_, SqL.of hb3, by omega⟩, ?_⟩
        show _ = upd H1 D (.lst (rs.take (i + 1)).flatten)
        rw [show r.take j = r from List.take_of_length_le (by omega), etake]
  · refine .inl ⟨⟨_, SqL.of ha, by rw [List.length_map]; omega⟩, ?_⟩
    rw [List.take_of_length_le (by omega)]
    exact hQ
/-- the numbers of the orders that are followed on some day, in the order of houses and days -/
def usedL (p h : Nat) (os : List Od) : List V := ((List.range h).map fun a => (List.range p).map (cellV p os a)).flatten
def idleL (p h : Nat) (os : List Od) : List Nat := (List.range os.length).filter fun k => !inV (.int (k : Nat)) (usedL p h os)
theorem usedL_len (p h : Nat) (os : List Od) : (usedL p h os).length = h * p := by
  unfold usedL
  rw [List.length_flatten, List.map_map]
  have e : (List.length ∘ fun a => (List.range p).map (cellV p os a)) = fun _ => p := by
    funext a
    simp
  rw [e, List.map_const', List.length_range, List.sum_replicate_nat]
theorem usedL_flat (p h : Nat) (os : List Od) : (usedL p h os).all flatV = true := by
  rw [List.all_eq_true]
  intro v hv
  unfold usedL at hv
  rw [List.mem_flatten] at hv
  obtain ⟨l, hl, hv⟩ := hv
  obtain ⟨a, _, rfl⟩ := List.mem_map.mp hl
  obtain ⟨d, _, rfl⟩ := List.mem_map.mp hv
  unfold cellV
  cases idx p os a (d : Int) <;> rfl
def spIdle (C : Addr) : Sp := fun vs H Q _ => ∃ (x t : Addr) (p h : Nat) (os : List Od) (F : List Addr), vs = [.ref x] ∧ NetAt C H x p h os t F ∧ NetOk p h os ∧
  ∀ H' l, Same H H' → H l = none → H' l = some (.lst (nints (idleL p h os))) → Q (.ref l) H'
section
variable {P : Program} {w : World} {K : PySem.W.Frag} {mg : Str → Option Value} {base : Heap}
theorem ok_idle {f C : Addr} {fd : FuncData} (F : Fun K "idle_orders" "Net.idle_orders" s_Net_idle_orders f fd) (T : NetT K C) (B : Blt mg) : FnOk P w K mg base CX0 2 f fd P_Net_idle_orders (spIdle C) := by
  refine F.ok sc_Net_idle_orders (fun vs H Q E h => ?_) (fun cdv A outer s H vs Q E hr h => ?_)
  · obtain ⟨x, t, p, h, os, F, rfl, _⟩ := h
    rfl
  · obtain ⟨x, t, p, h, os, F, rfl, N, ok, q⟩ := h
    obtain ⟨dx, fl, as, _, hx, ⟨ts, ht, hP⟩, hfl, hlen, hrow⟩ := id N
    have p30 := ok.p30; have h10 := ok.h10; have ol := ok.len
    refine ⟨_, pss_cons (ps_set (i := 1) sc_Net_idle_orders.nd rfl (.inr rfl) (pe_lc2 (own := [("days", 2), ("index", 3)]) (vs1 := [3]) (g := gName 2) (g1 := gName 3) (tt := tYes) (tt1 := tYes) (wi1 := iList K (tVar 2)) (by rfl) sc_Net_idle_orders.nd (pi_list (pe_fld (pv 0) rfl))
          (blkOk_by (N := N_Net_idle_orders) (sc := defScope s_Net_idle_orders) (by decide +kernel)) (by intro i hi; simp at hi; simp [hi]) (fun _ _ _ _ _ => pg_name (i := 2) sc_Net_idle_orders.nd rfl (.inl rfl)) (fun _ _ _ _ _ => pts_nil)
          (fun _ _ _ _ _ => pi_list (pv 2)) (fun _ _ _ _ _ => pg_name (i := 3) sc_Net_idle_orders.nd rfl (.inl rfl)) (fun _ _ _ _ _ => pts_nil) (fun _ _ _ _ _ => pv 3)))
      (pss_one (ps_ret (pe_lc (own := [("index", 3)]) (g := gName 3) (tt := tTest (tOp (rIn K true) (tVar 3) (tVar 1))) (by rfl) sc_Net_idle_orders.nd (pi_range1 rfl B.range (pa_cons (pe_callB call_len_seq (by rfl) B.len PySem.boot_len (pa_cons (pe_fld (pv 0) rfl) pa_nil)) pa_nil))
          (blkOk_by (N := N_Net_idle_orders) (sc := defScope s_Net_idle_orders) (by decide +kernel)) (fun _ _ _ _ _ => pg_name (i := 3) sc_Net_idle_orders.nd rfl (.inl rfl))
          (fun _ _ _ _ _ => pts_one (pt_cmpR op_notIn_seq (pv 3) (pv 1) rfl)) (fun _ _ _ _ _ => pv 3)))), ?_⟩
    have small : (usedL p h os).length ≤ 300 := by
      rw [usedL_len]
      exact Nat.le_trans (Nat.mul_le_mul h10 p30) (by decide)
    refine ⟨_, rfl, x, C, dx, _, _, rfl, hx, T.cl, T.nF, nf_fl, fl, rfl, ⟨_, SqL.of hfl⟩, fun D nD => ?_⟩
    refine lc2_rows (K := K) (a := fl) (rows := as) (rs := (List.range h).map fun a => (List.range p).map (cellV p os a)) (σ := [some (.ref x), none, none, none]) (x := 2) (y := 3) hfl (by rw [hlen]; simp) (fun i b r e1 e2 => ?_) nD (by show 2 < 4; decide) (by show 3 < 4; decide) (by decide)
      (small1000 (by show (usedL p h os).length ≤ 1000; omega)) ?_
    · have hi : i < h := by
        have := (List.getElem?_eq_some_iff.mp e1).1
        omega
      rw [List.getElem?_map, List.getElem?_range hi] at e2
      rw [← Option.some.inj e2]
      exact hrow i b e1
    · have s1 := same_upd (o := HO.lst (usedL p h os)) nD
      have hx1 := s1 _ _ hx
      have ht1 := s1 _ _ ht
      refine ⟨_, rfl, x, C, dx, _, _, rfl, hx1, T.cl, T.nO, nf_or, t, ts, rfl, .inr (SqT.of ht1), ts.length, rfl, ?_, ?_, fun l nl => ?_⟩
      · omega
      · rw [hP.length]
        omega
      have nDl : D ≠ l := ne_of_none upd_same nl
      refine lc_range (lo := 0) (n := ((ts.length : Nat) : Int).toNat) (fun i H' => H' = upd (upd H D (.lst (usedL p h os))) l (.lst (nints ((List.range i).filter fun k => !inV (.int (k : Nat)) (usedL p h os))))) rfl ?_ ?_
      · rintro i H' hi rfl
        refine ⟨rfl, _, rfl, _, rfl, D, _, rfl, .inl (SqL.of ((upd_ne nDl).trans upd_same)), rfl, usedL_flat p h os, _, rfl, ?_⟩
        show if (!inV (V.int (0 + (i : Int))) (usedL p h os)) = true then _ else _
        rw [Int.zero_add]
        refine ite2 (fun e => ?_) (fun e => ?_)
        · refine ⟨_, rfl, _, upd_same, ?_, ?_⟩
          · unfold nints
            rw [List.length_map]
            exact small1000 (Nat.le_trans (List.length_filter_le _ _) (by rw [List.length_range]; rw [hP.length] at hi; omega))
          · rw [upd_upd, filter_range_succ', if_pos e]
            unfold nints
            rw [List.map_append]
            rfl
        · rw [filter_range_succ', if_neg e, List.append_nil]
      · rintro H' rfl
        refine q _ l (s1.trans (same_upd nl)) (s1.free nl) ?_
        rw [upd_same]
        unfold idleL
        rw [Int.toNat_natCast, hP.length]
end
/-! ### stops and what is still to come: plain -/
def StopAt (H : Hp) (v : V) (s : Nat × Nat) : Prop := ∃ u, v = .ref u ∧ H u = some (.tup [.int s.1, .int s.2])
theorem StopAt.keep {H H' : Hp} {v : V} {s : Nat × Nat} (k : TupKeep H H') (h : StopAt H v s) : StopAt H' v s := by
  obtain ⟨u, e, hu⟩ := h
  exact ⟨u, e, k _ _ hu⟩
theorem StopsAt.keep {H H' : Hp} {vs : List V} {l : List (Nat × Nat)} (k : TupKeep H H') (h : Paired (StopAt H) vs l) : Paired (StopAt H') vs l := Paired.mapP h fun _ _ q => q.keep k
/-- what is still to come from a stop (or none) -/
def rest (p : Nat) (os : List Od) (n : Nat) : Option (Nat × Nat) → List (Nat × Nat)
  | none => []
  | some s => way p os n s
theorem rest_succ (p : Nat) (os : List Od) (n : Nat) (s : Nat × Nat) : rest p os (n + 1) (some s) = s :: rest p os n (hop p os s) := by
  show way p os (n + 1) s = _
  unfold way
  cases hop p os s <;> rfl
theorem rest_zero (p : Nat) (os : List Od) (o : Option (Nat × Nat)) : rest p os 0 o = [] := by cases o <;> rfl
theorem hop_house {p h : Nat} {os : List Od} {s s' : Nat × Nat} (k : NetOk p h os) (e : hop p os s = some s') : s'.1 < h := by
  unfold hop at e
  cases q : idx p os s.1 (s.2 : Int) with
  | none =>
    rw [q] at e
    cases e
  | some j =>
    simp only [q] at e
    have hj := idx_lt q
    rw [List.getElem?_eq_getElem hj] at e
    rw [← Option.some.inj e]
    exact (k.ok _ (List.getElem_mem hj)).t
/-! ### ways: plain -/
theorem way_len (p : Nat) (os : List Od) : ∀ (n : Nat) (st : Nat × Nat), (way p os n st).length ≤ n
  | 0, _ => Nat.le_refl _
  | n + 1, st => by
    show (way p os (n + 1) st).length ≤ n + 1
    rw [show way p os (n + 1) st = rest p os (n + 1) (some st) from rfl, rest_succ]
    cases h : hop p os st with
    | none => exact Nat.succ_le_succ (Nat.zero_le _)
    | some s' => exact Nat.succ_le_succ (way_len p os n s')
theorem way_house {p h : Nat} {os : List Od} (k : NetOk p h os) : ∀ {n : Nat} {st : Nat × Nat}, st.1 < h → ∀ s ∈ way p os n st, s.1 < h
  | 0, _, _, _, hm => by cases hm
  | n + 1, st, h0, s, hm => by
    rw [show way p os (n + 1) st = rest p os (n + 1) (some st) from rfl, rest_succ] at hm
    rcases List.mem_cons.mp hm with e | hm
    · rw [e]; exact h0
    · cases q : hop p os st with
      | none => rw [q] at hm; cases hm
      | some s' =>
        rw [q] at hm
        exact way_house k (hop_house k q) s hm
/-- the i-th stop, by going on from it -/
theorem way_drop {p : Nat} {os : List Od} : ∀ {n i : Nat} {st s : Nat × Nat}, (way p os n st)[i]? = some s → (way p os n st).drop i = way p os (n - i) s
  | 0, _, _, _, h => by cases h
  | n + 1, 0, st, s, h => by
    have e : st = s := Option.some.inj h
    subst e
    rfl
  | n + 1, i + 1, st, s, h => by
    have e : way p os (n + 1) st = st :: rest p os n (hop p os st) := rest_succ p os n st
    rw [e] at h ⊢
    rw [List.getElem?_cons_succ] at h
    rw [List.drop_succ_cons, Nat.succ_sub_succ]
    cases q : hop p os st with
    | none => rw [q] at h; cases h
    | some s' =>
      rw [q] at h
      exact way_drop h
abbrev s_Net_route : Stmt := inClass (top 34) 3
abbrev N_Net_route : List Str := ["self", "house", "day", "limit", "stop", "count"]
abbrev P_Net_route : List Str := ["self", "house", "day", "limit"]
/-! ### the first stops of a letter -/
theorem gsc_route : GScope N_Net_route P_Net_route (defScope s_Net_route) := ⟨rfl, rfl, rfl, by decide +kernel, rfl, by decide +kernel, by decide +kernel⟩
def spRoute (C : Addr) : SpG := fun vs H cont _ => ∃ (x t : Addr) (p h a d lim : Nat) (os : List Od) (F : List Addr), vs = [.ref x, .int a, .int d, .int lim] ∧ NetAt C H x p h os t F ∧ NetOk p h os ∧ a < h ∧ d ≤ 1000000000000000000 ∧ lim ≤ 1000 ∧
  ∀ ys H', Same H H' → Paired (StopAt H') ys (way p os lim (a, d)) → cont ys H'
section
variable {P : Program} {w : World} {K : PySem.W.Frag} {mg : Str → Option Value} {base : Heap}
theorem ok_route {f C fS : Addr} {fd fdS : FuncData} (F : Fun K "route" "Net.route" s_Net_route f fd) (T : NetT K C) (DL : Df P w K mg base "check_letter" 4 P_check_letter (spLetter C)) (GS : FnOk P w K mg base CX0 2 fS fdS P_Net_stop_after (spStop C)) (mS : Meth K C "stop_after" fS) (bS : Binds K fdS P_Net_stop_after []) :
    GFn P w K mg base 5 f fd P_Net_route (spRoute C) := by
  obtain ⟨fL, fdL, gL, kL, bL, GL⟩ := DL
  obtain ⟨oc, od, kV, doc, pm, an, cdv, ct, osl, rfl, lk, hcd⟩ := F.ex
  refine gfn_of lk hcd gsc_route (fun vs H Q E h => ?_) (fun A outer s H vs cont E pn hr h => ?_)
  · obtain ⟨x, t, p, h, a, d, lim, os, F, rfl, _⟩ := h
    rfl
  · obtain ⟨x, t, p, h, a, d, lim, os, F, rfl, N, ok, ha, hd, hlim, q⟩ := h
    have hr1 : Room 2 _ := hr.mono (by decide)
    refine ⟨_, gss_cons (gs_ps (ps_expr (pe_call GL hr (by rfl) gL kL bL .nil pass0 (pa_cons (pv 0) (pa_cons (pv 1) (pa_cons (pv 2) pa_nil))))))
      (gss_cons (gs_ps (ps_set (i := 4) gsc_route.nd rfl (.inl rfl) (pe_tup (pa_cons (pv 1) (pa_cons (pv 2) pa_nil)))))
      (gss_cons (gs_ps (ps_set (i := 5) gsc_route.nd rfl (.inl rfl) pe_int))
      (gss_cons (gs_while owns_gcx (PW.pt (pw_and (pt_cmpR op_notN (pv 4) pe_non (nomark _)) (pw_and1 (pt_cmpR op_lt (pv 5) (pv 3) (nomark _)))))
        (gss_cons (gs_yield (pv 4)) (gss_cons (gs_ps (ps_aug (i := 5) gsc_route.nd rfl (.inl rfl) pe_int ip_add))
        (gss_cons (gs_ps (ps_set (i := 4) gsc_route.nd rfl (.inl rfl) (pe_meth (pv 0) T.cl mS GS hr1 bS .nil pass0 (pa_cons (pe_ix ix_tup (pv 4) pe_int (fun _ _ => rfl)) (pa_cons (pe_ix ix_tup (pv 4) pe_int (fun _ _ => rfl)) pa_nil))))) gss_nil)))) gss_nil))), ?_⟩
    have hp : 0 < p := ok.p1
    refine ⟨_, rfl, _, rfl, _, rfl, x, t, p, h, a, d, os, F, rfl, N, ha, hd, ?_⟩
    refine ⟨_, rfl, _, rfl, (by show 2 ≤ sizeLine; decide), fun u nu => ?_⟩
    refine ⟨fun m ys σ H' => ∃ (c : Nat) (v : V) (cur : Option (Nat × Nat)) (l : List (Nat × Nat)), σ = [some (.ref x), some (.int a), some (.int d), some (.int lim), some v, some (.int c)] ∧ c + m = lim ∧ ys.length = c ∧ Same H H' ∧ Paired (StopAt H') ys l ∧
        l ++ rest p os m cur = way p os lim (a, d) ∧ (∀ s, cur = some s → s.1 < h ∧ StopAt H' v s) ∧ (cur = none → v = .non),
      ⟨lim, 0, .ref u, some (a, d), [], rfl, by omega, rfl, same_upd nu, .nil, rfl, fun s e => ?_, fun e => by cases e⟩, ?_⟩
    · cases e
      exact ⟨ha, u, rfl, upd_same⟩
    · rintro m ys σ H1 ⟨c, v, cur, l, rfl, hcm, hyl, s1, hP, hl, hcur, hnone⟩
      refine ⟨_, rfl, rfl, _, rfl, ?_⟩
      cases cur with
      | none =>
        rw [hnone rfl]
        show cont ys H1
        refine q ys H1 s1 ?_
        have e : l = way p os lim (a, d) := by
          rw [← hl]
          exact (List.append_nil l).symm
        rw [← e]
        exact hP
      | some s =>
        obtain ⟨hs, u1, rfl, hu1⟩ := hcur s rfl
        refine iteT ⟨_, rfl, _, rfl, _, _, rfl, rfl, _, rfl, ite2 (fun e => ?_) (fun e => ?_)⟩
        · have lt : (c : Int) < lim := of_decide_eq_true e
          obtain ⟨m, rfl⟩ : ∃ m', m = m' + 1 := ⟨m - 1, by omega⟩
          have N1 := N.same s1
          refine ⟨fun ys' σ' H' => ∃ (v : V), ys' = ys ++ [.ref u1] ∧ σ' = [some (.ref x), some (.int a), some (.int d), some (.int lim), some v, some (.int ((c : Int) + 1))] ∧ Same H1 H' ∧ StopV H1 H' v (hop p os s), ?_, ?_⟩
          · rintro ys' σ' H2 ⟨v, rfl, rfl, s2, hv⟩
            refine ⟨m, Nat.lt_succ_self _, c + 1, v, hop p os s, l ++ [s], rfl, by omega, by rw [List.length_append, hyl]; rfl, s1.trans s2, ?_, ?_, fun s' e' => ?_, fun e' => ?_⟩
            · exact Paired.snoc (StopsAt.keep (tk_of s2) hP) ⟨u1, rfl, s2 _ _ hu1⟩
            · rw [List.append_assoc, ← hl, rest_succ]
              rfl
            · rw [e'] at hv
              obtain ⟨y, e1, _, e2⟩ := hv
              exact ⟨hop_house ok e', y, e1, e2⟩
            · rw [e'] at hv
              exact hv
          · refine ⟨Nat.lt_of_le_of_lt (by omega : ys.length ≤ 1000) (small1000 (Nat.le_refl _)), _, rfl, ?_⟩
            refine ⟨_, rfl, _, _, rfl, rfl, ?_⟩
            obtain ⟨dx, fl, as, e0, hx, rest⟩ := id N1
            refine ⟨_, rfl, x, dx, _, rfl, hx, nf_no (by decide +kernel) (by decide +kernel) (by decide +kernel) (by decide +kernel), _, rfl, u1, _, 0, _, rfl, rfl, SqT.of hu1, atI_nat (j := 0) rfl, _, rfl, u1, _, 1, _, rfl, rfl, SqT.of hu1, atI_nat (j := 1) rfl, ?_⟩
            exact ⟨x, t, p, h, s.1, s.2, os, F, rfl, N1, hp, hs, fun H2 v s2 hv => ⟨v, rfl, rfl, s2, hv⟩⟩
        · have hm0 : m = 0 := by
            have q1 : ¬ (c : Int) < lim := fun z => e (decide_eq_true z)
            omega
          subst hm0
          show cont ys H1
          refine q ys H1 s1 ?_
          rw [rest_zero, List.append_nil] at hl
          rw [← hl]
          exact hP
end
/-! ### readings that leave the generators alone (for the body of a for over a generator) -/
section
open PyProof.Rows
abbrev EPg (X : Cx) (G : Array GenState) (pins : List (Addr × Obj)) (σ : L2.St) (Q : VK) : Value → Shared → Prop := fun v s' => (∃ x H', Inv X pins σ H' s' ∧ RelV x v ∧ Q x H') ∧ s'.gens = G
structure PEg (X : Cx) (e : Expr) (te : TE) : Prop where
  run : ∀ (G : Array GenState) (pins : List (Addr × Obj)) (s : Shared) (σ : L2.St) (H : Hp) (Q : VK), Inv X pins σ H s → s.gens = G → te σ H Q → wpAny (model X.prog X.w) X.A (eval e X.env) (EPg X G pins σ Q) X.xe s
structure PAg (X : Cx) (es : List Expr) (t : TA) : Prop where
  run : ∀ (G : Array GenState) (pos : Pos) (pins : List (Addr × Obj)) (s : Shared) (σ : L2.St) (H : Hp) (Q : List V → Hp → Prop), Inv X pins σ H s → s.gens = G → t σ H Q →
    wpAny (model X.prog X.w) X.A (spliced (backTo pos (starEach es X.env))) (fun us s' => (∃ xs H', Inv X pins σ H' s' ∧ Vals xs us ∧ Q xs H') ∧ s'.gens = G) X.xe s
structure PTg (X : Cx) (e : Expr) (t : TT) : Prop where
  run : ∀ (G : Array GenState) (wh : Expr) (pins : List (Addr × Obj)) (s : Shared) (σ : L2.St) (H : Hp) (Q : Bool → Hp → Prop), Inv X pins σ H s → s.gens = G → t σ H Q →
    wpAny (model X.prog X.w) X.A (isTrue e X.env (eval e X.env)) (fun b s' => (∃ H', Inv X pins σ H' s' ∧ Q b H') ∧ s'.gens = G) X.xe s
structure PSg (X : Cx) (st : Stmt) (t : TS) : Prop where
  run : ∀ (G : Array GenState) (pins : List (Addr × Obj)) (s : Shared) (σ : L2.St) (H : Hp) (D : Ends), Inv X pins σ H s → s.gens = G → t D σ H → wpAny (model X.prog X.w) X.A (exec st X.env) (fun f s' => SP X pins D f s' ∧ s'.gens = G) X.xe s
structure PSsg (X : Cx) (st : List Stmt) (t : TS) : Prop where
  run : ∀ (G : Array GenState) (pins : List (Addr × Obj)) (s : Shared) (σ : L2.St) (H : Hp) (D : Ends), Inv X pins σ H s → s.gens = G → t D σ H → wpAny (model X.prog X.w) X.A (execs st X.env) (fun f s' => SP X pins D f s' ∧ s'.gens = G) X.xe s
variable {X : Cx} {e e1 o i1 a b : Expr} {es : List Expr} {te t1 t2 to : TE} {t : TA} {pos pos2 pos3 : Pos}
theorem gv (i : Nat) {x : Str} (hN : X.N[i]? = some x := by rfl) (hv : Vis X.env.scope x := by first | exact Or.inl rfl | exact Or.inr (Or.inl rfl) | exact Or.inr (Or.inr rfl)) (hd : (x == ("__debug__" : Str)) = false := by decide)
    (hcd : (x == ("__classdict__" : Str)) = false := by decide) : PEg X (.Name x pos) (tVar i) := by
  refine ⟨fun G pins s σ H Q I eg ⟨v, ev, h⟩ => ?_⟩
  obtain ⟨m, n1, l1⟩ := I.loc
  obtain ⟨u, ru, l2⟩ := l1 i x v hN ev hv
  have done : EPg X G pins σ Q u s := ⟨⟨v, H, I, ru, h⟩, eg⟩
  rcases l2 with ⟨a1, a2⟩ | ⟨a1 | a1, c, a2, a3⟩
  · exact wpAny_Name (wpAny_loadName_local I.ok.kind a1 n1 a2 done) hd
  · exact wpAny_Name (wpAny_loadName_cell I.ok.kind a1 a2 a3 done) hd
  · exact wpAny_Name (wpAny_loadName_free I.ok.kind a1 a2 a3 done hcd) hd
theorem ge_int {z : Int} {j : Nat} : PEg X (.Constant (.int z) j pos) (tC (.int z)) := ⟨fun _ _ _ _ H _ I eg h => wpAny_Constant_int ⟨⟨.int z, H, I.tok _, ⟨_, rfl⟩, h⟩, eg⟩⟩
theorem ga_nil : PAg X [] tNil := ⟨fun _ _ _ _ _ H Q I eg h => Calls.spliced_nil ⟨⟨[], H, I, .nil, h⟩, eg⟩⟩
theorem ga_cons (h1 : PEg X e te) (h2 : PAg X es t) (hs : starEach (e :: es) X.env = (false, eval e X.env) :: starEach es X.env := by rfl) : PAg X (e :: es) (tCons te t) := by
  refine ⟨fun G pos pins s σ H Q I eg h => ?_⟩
  rw [hs]
  show wpAny _ _ (spliced ((false, eval e X.env) :: backTo pos (starEach es X.env))) _ _ s
  refine Calls.spliced_cons (thn (h1.run G pins s σ H _ I eg h) fun u sa ⟨⟨x, Ha, Ia, ra, qa⟩, ega⟩ => ?_)
  exact thn (h2.run G pos pins sa σ Ha _ Ia ega qa) fun us sb ⟨⟨xs, Hb, Ib, rb, qb⟩, egb⟩ => ⟨⟨x :: xs, Hb, Ib, .cons ra rb, qb⟩, egb⟩
theorem ge_tup {k} (h : PAg X es t) : PEg X (.Tuple es k pos) (tTup t) := by
  refine ⟨fun G pins s σ H Q I eg hq => ?_⟩
  refine wpAny_Tuple_spliced (thn (h.run G pos pins s σ H _ I eg hq) fun us sa ⟨⟨xs, Ha, Ia, ra, z, qa⟩, ega⟩ => ⟨by rw [← ra.length]; exact z, ?_⟩)
  refine ⟨⟨.ref sa.heap.objs.size, upd Ha sa.heap.objs.size (.tup xs), Ia.laid (t' := sa.toks) (fun c u ec => Heap.get?_push_of_some _ ec) (Nat.le_refl _) ?_, rfl, qa _ (Ia.hok.fresh (Nat.le_refl _))⟩, ega⟩
  exact ⟨z, us, ra, ⟨_, Heap.get?_push_size _ rfl, rfl, _, rfl⟩⟩
theorem ge_ixT (h1 : PEg X a t1) (h2 : PEg X b t2) (hs : PlainIx b) : PEg X (.Subscript a b pos) (tOp (rIxT X.K) t1 t2) := by
  refine ⟨fun G pins s σ H Q I eg h => ?_⟩
  refine Subscript_ (thn (h1.run G pins s σ H _ I eg h) fun v sa ⟨⟨x, Ha, Ia, ra, qa⟩, ega⟩ => thn (h2.run G pins sa σ Ha _ Ia ega qa) fun u sb ⟨⟨y, Hb, Ib, rb, qb⟩, egb⟩ => ?_)
  obtain ⟨p, xs, j, z, rfl, rfl, hq, hat, q⟩ := qb
  cases ra
  obtain ⟨tk, rfl⟩ := rb
  obtain ⟨its, rv, pl, hz⟩ := Ib.tuple hq
  obtain ⟨n, n1, n2, n3, n4, n5⟩ := atI_get hat
  obtain ⟨w', ew, rw'⟩ := rv.get n2
  have hl := rv.length
  have hn := line63
  have done : EPg X G pins σ Q w' sb := ⟨⟨z, Hb, Ib, rw', q⟩, egb⟩
  exact subscriptTail_builtinR (x := w') pl.typeIs slot_tuple_getitem.lookup
    (getItem_tuple (j := n) (Q := fun r s' => r = w' ∧ EPg X G pins σ Q r s') pl (by omega) (by omega) (by rw [List.size_toArray, ← hl]; exact n1) (by simpa using ew) ⟨rfl, done⟩) (hs _ _)
theorem ge_mod (h1 : PEg X a t1) (h2 : PEg X b t2) : PEg X (.BinOp a .Mod b pos) (tOp (rI (fun _ j => j ≠ 0) fun i j => .int (i.fmod j)) t1 t2) := by
  refine ⟨fun G pins s σ H Q I eg h => ?_⟩
  refine wpAny_BinOp (thn (h1.run G pins s σ H _ I eg h) fun v sa ⟨⟨x, Ha, Ia, ra, qa⟩, ega⟩ => thn (h2.run G pins sa σ Ha _ Ia ega qa) fun u sb ⟨⟨y, Hb, Ib, rb, qb⟩, egb⟩ => ?_)
  obtain ⟨m, n, rfl, rfl, hc, q⟩ := qb
  obtain ⟨tk, rfl⟩ := ra
  obtain ⟨tk2, rfl⟩ := rb
  exact mod_int' hc ⟨⟨.int (m.fmod n), Hb, Ib.tok _, ⟨_, rfl⟩, q⟩, egb⟩
theorem ge_sub (h1 : PEg X a t1) (h2 : PEg X b t2) : PEg X (.BinOp a .Sub b pos) (tOp (rI0 fun i j => .int (i - j)) t1 t2) := by
  refine ⟨fun G pins s σ H Q I eg h => ?_⟩
  refine wpAny_BinOp (thn (h1.run G pins s σ H _ I eg h) fun v sa ⟨⟨x, Ha, Ia, ra, qa⟩, ega⟩ => thn (h2.run G pins sa σ Ha _ Ia ega qa) fun u sb ⟨⟨y, Hb, Ib, rb, qb⟩, egb⟩ => ?_)
  obtain ⟨m, n, rfl, rfl, q⟩ := qb
  obtain ⟨tk, rfl⟩ := ra
  obtain ⟨tk2, rfl⟩ := rb
  exact sub_int ⟨⟨.int (m - n), Hb, Ib.tok _, ⟨_, rfl⟩, q⟩, egb⟩
theorem ge_fld {f : Str} (h1 : PEg X e te) (hb : attributeBase e f X.env (eval e X.env) = eval e X.env) : PEg X (.Attribute e f pos) (tFld X.K te f) := by
  refine ⟨fun G pins s σ H Q I eg h => ?_⟩
  refine attr_of hb (thn (h1.run G pins s σ H _ I eg h) fun u sa ⟨⟨x, Ha, Ia, ra, p, C, dx, fs, v, ex, ep, cl, na, lk, q⟩, ega⟩ => ?_)
  subst ex
  obtain rfl : u = Value.ref p := ra
  obtain ⟨mA, O, rel, _, _, _⟩ := ins_get Ia.hok ep
  obtain ⟨w', hw, rw'⟩ := RelO.some_of (v := v) (o := mA f) (by rw [← lk]; exact rel f)
  exact get_map Ia.kIn O (cl.get f) cl.hd na hw (handed_of rw') ⟨⟨v, Ha, Ia.tok _, rw', q⟩, ega⟩
theorem ge_len {x : Str} {p : Pos} (hg : Gl X x) (hm : X.mg x = none) (hv : bootBuiltins x = some (.builtin "len")) (h1 : PAg X [e] t) (hn : x ≠ "__name__" := by decide) (hdb : (x == ("__debug__" : Str)) = false := by decide)
    (he : starEach [e] X.env = (false, eval e X.env) :: starEach [] X.env := by rfl) : PEg X (.Call (.Name x p) [e] [] pos) (tCB (fun xs H Q => ∃ p ys, xs = [.ref p] ∧ SqL X.K H p ys ∧ Q (.int ys.length) H) t) := by
  refine ⟨fun G pins s σ H Q I eg h => ?_⟩
  refine wpAny_Call_Name_kw (ld_blt I hg hm hv ?_ hn hdb)
  refine PyProof.Rows.callWith_builtin1 (thn (h1.run G pos pins s σ H _ I eg h) fun us sa ⟨⟨vs, Ha, Ia, ra, p', ys, ex, hq, q⟩, ega⟩ => ?_) he rfl
  subst ex
  obtain ⟨u, rfl, rx⟩ := vals1 ra
  cases rx
  have hn := line63
  obtain ⟨its, rv, pl, hz⟩ := Ia.list hq
  have hl := rv.length
  exact Calls.call_len_list pl.isList (by simp only [List.size_toArray] <;> omega) ⟨⟨.int ys.length, Ha, Ia.tok _, ⟨sa.toks + 1, by rw [List.size_toArray, hl]⟩, q⟩, ega⟩
/-- d[k], d with tuples as keys -/
def tGetT (td ty : TE) : TE := fun σ H Q => td σ H fun x H1 => ty σ H1 fun y H2 => ∃ a kvs k c v, x = .ref a ∧ y = .ref c ∧ H2 a = some (.dT kvs) ∧ H2 c = some (.tup (k.map kV)) ∧ valV kvs k = some v ∧ Q v H2
theorem ge_get {ty : TE} (hu : X.A.units + 1 < cLine) (h1 : PEg X o to) (h2 : PEg X i1 ty) (hs : NoSl i1) : PEg X (.Subscript o i1 pos) (tGetT to ty) := by
  refine ⟨fun G pins s σ H Q I eg h => ?_⟩
  refine subD_of PySem.F.slot_dict_getitem.lookup hs (thn (h1.run G pins s σ H _ I eg h) fun u sa ⟨⟨x, Ha, Ia, ra, qa⟩, ega⟩ => thn (h2.run G pins sa σ Ha _ Ia ega qa) fun iv sb ⟨⟨y, Hb, Ib, rb, p, kvs, k, c, v, ex, ey, hp, hc, hv, q⟩, egb⟩ => ?_)
  subst ex ey
  obtain rfl : u = Value.ref p := ra
  obtain rfl : iv = Value.ref c := rb
  have gd : DGet Hb p (.ref c) (some v) := .inr ⟨kvs, k, c, .inl hp, rfl, hc, hv.symm⟩
  obtain ⟨z, hd, xs, rel, dd⟩ := dt_rd Ib.hok (.inl hp)
  obtain ⟨w', hw, rw'⟩ := RelO.some_of (v := v) (o := (atKey xs k).map (·.2)) (by rw [← hv]; exact rel.val k)
  obtain ⟨pr, hp1, hp2⟩ := Option.map_eq_some_iff.mp hw
  refine ⟨dict_typeIs Ib gd, wpAny_getItem_heap (tupleKind_room_in1 hu) (key_of Ib.hok hc) dd hp1 ?_⟩
  rw [hp2]
  exact ⟨⟨v, Hb, Ib.tok _, rw', q⟩, egb⟩
/-- k in d, as a test, d with tuples as keys -/
def tInT (ty td : TE) : TT := fun σ H Q => ty σ H fun y H1 => td σ H1 fun x H2 => ∃ a kvs k c, x = .ref a ∧ y = .ref c ∧ H2 a = some (.dT kvs) ∧ H2 c = some (.tup (k.map kV)) ∧ Q (valV kvs k).isSome H2
theorem gt_in {ty : TE} (hu : X.A.units + 1 < cLine) (h1 : PEg X i1 ty) (h2 : PEg X o to) (hb : behindInMarks .In o = false := by rfl) : PTg X (.Compare i1 [.In] [o] pos) (tInT ty to) := by
  refine ⟨fun G wh pins s σ H Q I eg h => ?_⟩
  refine wpAny_isTrue_Compare1 (thn (h1.run G pins s σ H _ I eg h) fun iv sa ⟨⟨y, Ha, Ia, ra, qa⟩, ega⟩ => thn (h2.run G pins sa σ Ha _ Ia ega qa) fun u sb ⟨⟨x, Hb, Ib, rb, p, kvs, k, c, ex, ey, hp, hc, q⟩, egb⟩ => ?_) hb
  subst ex ey
  obtain rfl : u = Value.ref p := rb
  obtain rfl : iv = Value.ref c := ra
  obtain ⟨z, hd, xs, rel, dd⟩ := dt_rd Ib.hok (.inl hp)
  refine wpAny_in_heap (tupleKind_room_in1 hu) (key_of Ib.hok hc) hd dd ?_
  have e5 := (rel.val k).isSome_eq
  rw [Option.isSome_map] at e5
  rw [← e5]
  exact wpAny_truthy_bool ⟨⟨Hb, Ib.tok _, q⟩, egb⟩
/-! statements -/
theorem Inv.stored {pins : List (Addr × Obj)} {σ : L2.St} {H : Hp} {s : Shared} {i : Nat} {x : Str} {v : V} {u : Value} {m : Str → Option Value} {h' : Heap} {tk : Nat} (I : Inv X pins σ H s) (hN : X.N.Nodup) (hi : X.N[i]? = some x) (hx : X.env.scope.names.lookup x = some .local) (r : RelV v u)
    (hm : ∀ (j : Nat) (y : Str) (z : V), X.N[j]? = some y → σ[j]? = some (some z) → Vis X.env.scope y → ∃ z', RelV z z' ∧ Look X.env s.heap m y z') (hn : s.heap.Ns X.env.locals m)
    (hn' : h'.Ns X.env.locals (fun y => if y = x then some u else m y)) (sb : Heap.SameBut X.env.locals s.heap h') : Inv X pins (σ.set i (some v)) H { s with heap := h', toks := tk } := by
  have lt : i < σ.length := by rw [I.len]; exact (List.getElem?_eq_some_iff.mp hi).1
  have old : ∀ {c : Addr} {o : Obj}, X.s_0.heap.get? c = some o → c ≠ X.env.locals := fun {c o} ec => Nat.ne_of_lt (Nat.lt_of_lt_of_le (Heap.lt_size ec) I.ok.above)
  refine ⟨I.ok, I.os, I.bare, ⟨fun c o ec n1 n2 n3 => ?_, fun c o ec n1 n2 n3 => ?_, I.base.free, fun c o ec n1 => ?_, I.base.tups, I.base.frzs, I.base.tbls⟩, ⟨_, hn', fun j y z q1 q2 q3 => ?_⟩, fun y c ec => ?_, I.free, I.freeC, fun q hq => ?_, fun c o ec => ?_, by simpa using I.len⟩
  · exact (sb.2 c (old ec)).trans (I.base.keep c o ec n1 n2 n3)
  · obtain ⟨sl, q⟩ := I.base.slot c o ec n1 n2 n3
    exact ⟨sl, (sb.2 c (old ec)).trans q⟩
  · obtain ⟨o', q⟩ := I.base.there c o ec n1
    exact ⟨o', (sb.2 c (old ec)).trans q⟩
  · by_cases hj : j = i
    · subst hj
      obtain rfl : y = x := Option.some.inj (q1.symm.trans hi)
      rw [List.getElem?_set_self lt] at q2
      obtain rfl : v = z := Option.some.inj (Option.some.inj q2)
      exact ⟨u, r, .inl ⟨hx, if_pos rfl⟩⟩
    · rw [List.getElem?_set_ne (Ne.symm hj)] at q2
      obtain ⟨z', r1, q⟩ := hm j y z q1 q2 q3
      refine ⟨z', r1, ?_⟩
      rcases q with ⟨k1, k2⟩ | ⟨k1, c, k2, k3⟩
      · refine .inl ⟨k1, ?_⟩
        have ne : y ≠ x := fun ey => by
          subst ey
          obtain ⟨l1, e1⟩ := List.getElem?_eq_some_iff.mp q1
          obtain ⟨l2, e2⟩ := List.getElem?_eq_some_iff.mp hi
          have pw := List.pairwise_iff_getElem.mp hN
          rcases Nat.lt_or_gt_of_ne hj with z | z
          · exact pw j i l1 l2 z (e1.trans e2.symm)
          · exact pw i j l2 l1 z (e2.trans e1.symm)
        show (if y = x then some u else m y) = some z'
        rw [if_neg ne]
        exact k2
      · exact .inr ⟨k1, c, k2, k3.sameBut sb (I.cne y c k2)⟩
  · obtain ⟨z, q⟩ := I.cell y c ec
    exact ⟨z, q.sameBut sb (I.cne y c ec)⟩
  · obtain ⟨q1, q2, q3, q4, q5⟩ := I.pin q hq
    exact ⟨(sb.2 q.1 q3).trans q1, q2, q3, q4, q5⟩
  · refine (I.hok c o ec).stay (fun d z hd q => (sb.2 d ?_).trans q) (fun _ q => q) fun _ _ q => q
    rintro rfl
    rcases hd with rfl | hd
    · rw [I.free] at ec; cases ec
    · rw [I.free] at hd; cases hd
/-- a store to a local name leaves the generators alone -/
theorem gstore {M : Model} {A : Around} {E : Value → Shared → Prop} {pins : List (Addr × Obj)} {σ : L2.St} {H : Hp} {s : Shared} {i : Nat} {x : Str} {v : V} {u : Value} {Q : Unit → Shared → Prop} (I : Inv X pins σ H s) (hN : X.N.Nodup) (hi : X.N[i]? = some x) (hx : X.env.scope.names.lookup x = some .local) (r : RelV v u)
    (h : ∀ s', Inv X pins (σ.set i (some v)) H s' → s'.gens = s.gens → Q () s') : wpAny M A (storeName X.env x u) Q E s := by
  obtain ⟨m, hn, hl⟩ := id I.loc
  have hc : (X.env.scope.kind == .class || (X.env.scope.kind == .module && X.env.locals != X.env.globals)) = false := by rw [I.ok.kind]; rfl
  exact wpAny_storeName_local hx hn (fun h' hn' sb => h _ (Inv.stored I hN hi hx r hl hn hn' sb) rfl) hc
theorem gs_set {i : Nat} {x : Str} {p : Pos} (hN : X.N.Nodup) (hi : X.N[i]? = some x) (hx : X.env.scope.names.lookup x = some .local) (h1 : PEg X e te)
    (hs : swapsWithSole [.Name x p] e pos.line X.env = pure false := by rfl) (hw : swappedStores [.Name x p] e X.env = pure none := by rfl) (hq : (assignEach [.Name x p] X.env).map (·.2) = [assign (.Name x p) X.env] := by rfl) : PSg X (.Assign [.Name x p] e pos) (tAsg te (gName i)) := by
  refine ⟨fun G pins s σ H D I eg h => ?_⟩
  refine wpAny_Assign_stores (thn (h1.run G pins s σ H _ I eg h) fun v sa ⟨⟨y, Ha, Ia, ra, qa⟩, ega⟩ => ?_) hs hw
  rw [hq]
  refine wpAny_assign_Name (gstore Ia hN hi hx ra fun sb Ib egb => ?_)
  exact ⟨⟨_, Ha, Ib, qa⟩, egb.trans ega⟩
/-- xs.append(e) as a statement -/
def tAppS (to te : TE) : TS := fun D σ H => to σ H fun x H1 => ∃ l xs0, x = .ref l ∧ H1 l = some (.lst xs0) ∧ te σ H1 fun y H2 => ∃ xs, H2 l = some (.lst xs) ∧ xs.length < sizeLine ∧ D.nx σ (upd H2 l (.lst (xs ++ [y])))
theorem gs_append {apos cpos : Pos} (h1 : PEg X o to) (h2 : PEg X e te)
    (hbase : attributeBase o "append" X.env (eval o X.env) = eval o X.env := by rfl)
    (hfew : ((backTo cpos (starEach [e] X.env)).all (fun x => !x.1) && (backToKw cpos (keywordEach [] X.env)).all (fun x => x.1.isSome) && decide ([e].length + ([] : List Keyword).length + (if ([] : List Keyword).isEmpty then 0 else 1) < 30)) = true := by rfl)
    (hline : (apos.endLine == cpos.line) = true := by rfl) (hst : starEach [e] X.env = [(false, eval e X.env)] := by rfl)
    (hs : swapsWith (.Call (.Attribute o "append" apos) [e] [] cpos) none pos.line X.env = pure false := by rfl) : PSg X (.Expr (.Call (.Attribute o "append" apos) [e] [] cpos) pos) (tAppS to te) := by
  refine ⟨fun G pins s σ H D I eg h => ?_⟩
  refine wpAny_Expr_any ?_ I.quiet hs
  refine wpAny_Call_method_late hbase hfew hline rfl (thn (h1.run G pins s σ H _ I eg h) fun v sa ⟨⟨x, Ha, Ia, ra, l, xs0, ex, hl0, q⟩, ega⟩ => ?_)
  subst ex
  obtain ⟨hty, hno⟩ := tyV_is (T := "list") Ia ra (Or.inl ⟨rfl, _, Or.inl (Or.inl hl0)⟩)
  refine ⟨"list", "list.append", PySem.F.plainAttrs_list, PySem.F.slot_list_append, PySem.F.type_list_append, hty, hno, ?_⟩
  obtain rfl : v = Value.ref l := ra
  rw [hst]
  refine Calls.callWith_builtin rfl (Calls.evalArgs_plain ?_)
  refine Calls.spliced_cons (thn (h2.run G pins sa σ Ha _ Ia ega q) fun u sb ⟨⟨y, Hb, Ib, rb, xs, hl, hz, q2⟩, egb⟩ => Calls.spliced_nil ?_)
  obtain ⟨z, its, n, r, hlen, ei⟩ := Ib.lstM hl
  refine call_meets F.slot_list_append ⟨_, ei, rfl⟩ F.entry_list_append (F.args_list_append_2 _ _) (PySem.list_append l its.toArray n u (by rw [List.size_toArray]; omega)) ⟨ei, ?_⟩
  refine ⟨⟨σ, _, Ib.lset (its' := its ++ [u]) hl ei (by simp) (r.append (.cons rb .nil)) ?_, q2⟩, egb⟩
  rw [List.length_append, List.length_singleton]
  omega
theorem gs_if {c : Expr} {s1 s2 : List Stmt} {tc : TT} {u1 u2 : TS} (hc : PTg X c tc) (ha : PSsg X s1 u1) (hb : PSsg X s2 u2) : PSg X (.If c s1 s2 pos) (tIfS tc u1 u2) := by
  refine ⟨fun G pins s σ H D I eg h => ?_⟩
  refine wpAny_If (thn (hc.run G c pins s σ H _ I eg h) fun d sa ⟨⟨Ha, Ia, qa⟩, ega⟩ => ?_)
  cases d with
  | true => exact ha.run G pins sa σ Ha D Ia ega qa
  | false => exact hb.run G pins sa σ Ha D Ia ega qa
theorem gs_ret (h1 : PEg X e te) : PSg X (.Return (some e) pos) (tRet te) := by
  refine ⟨fun G pins s σ H D I eg h => ?_⟩
  exact wpAny_Return_some (thn (h1.run G pins s σ H _ I eg h) fun v sa ⟨⟨x, Ha, Ia, ra, qa⟩, ega⟩ => ⟨⟨x, σ, Ha, Ia, ra, qa⟩, ega⟩)
/-- d[k] = e, d with tuples as keys -/
def tPutT (td ty tv : TE) : TS := fun D σ H => tv σ H fun v H1 => td σ H1 fun x H2 => ty σ H2 fun y H3 => ∃ a kvs k c, x = .ref a ∧ y = .ref c ∧ H3 a = some (.dT kvs) ∧ H3 c = some (.tup (k.map kV)) ∧ kvs.length < sizeLine ∧ D.nx σ (upd H3 a (.dT (putK kvs k v)))
theorem gs_put {ty tv : TE} {value : Expr} (hu : X.A.units + 1 < cLine) (h1 : PEg X o to) (h2 : PEg X i1 ty) (h3 : PEg X value tv) (hs : swapsWith value (some (.Subscript o i1 pos2)) pos.line X.env = pure false) : PSg X (.Assign [.Subscript o i1 pos2] value pos) (tPutT to ty tv) := by
  refine ⟨fun G pins s σ H D I eg h => ?_⟩
  refine wpAny_Assign_Subscript (thn (h3.run G pins s σ H _ I eg h) fun r sa ⟨⟨v, Ha, Ia, ra, qa⟩, ega⟩ => thn (h1.run G pins sa σ Ha _ Ia ega qa) fun u sb ⟨⟨x, Hb, Ib, rb, qb⟩, egb⟩ =>
    thn (h2.run G pins sb σ Hb _ Ib egb qb) fun iv sc ⟨⟨y, Hc, Ic, rc, p, kvs, k, c, ex, ey, hp, hc, hl, q⟩, egc⟩ => ?_) hs
  subst ex ey
  obtain rfl : u = Value.ref p := rb
  obtain rfl : iv = Value.ref c := rc
  obtain ⟨z, hd, xs, rel, dd⟩ := dt_of Ic.hok hp
  have hz : xs.length ≤ sizeLine := by rw [← Paired.length rel]; exact z
  have hl2 : (putK kvs k v).length ≤ sizeLine := by have := length_putK kvs k v; omega
  refine wpAny_setItem_heap (hsz := hz) (tupleKind_room_in1 hu) (key_of Ic.hok hc) dd fun h' dd' sb2 => ?_
  obtain ⟨ob, es, ep, q1, q2, q3, q4, _, q5⟩ := dd'
  refine ⟨⟨σ, upd Hc p (.dT (putK kvs k v)), d_write Ic (by rw [hp]; exact True.intro) sb2 ⟨ob, q1⟩ ⟨hl2, hd, _, (rel.put k hc ra).keeps fun c' ys ec => ?_, ob, es, ep, q1, q2, q3, q4, q5⟩, q⟩, egc⟩
  rw [upd_ne (ne_of ec hp (fun z => nomatch z))]
  exact ec
theorem gss_one {st : Stmt} {u1 : TS} (h1 : PSg X st u1) : PSsg X [st] u1 := by
  refine ⟨fun G pins s σ H D I eg h => ?_⟩
  refine wpAny_execs_cons (thn (h1.run G pins s σ H D I eg h) fun f sa qa => ?_)
  cases f with
  | next => exact wpAny_execs_nil qa
  | ret v => exact qa
  | brk => exact qa
  | cont => exact qa
theorem gss_nil0 : PSsg X [] (fun D σ H => D.nx σ H) := ⟨fun _ _ _ σ H _ I eg h => wpAny_execs_nil ⟨⟨σ, H, I, h⟩, eg⟩⟩
theorem gss_two {st : Stmt} {rest : List Stmt} {u1 u2 : TS} (h1 : PSg X st u1) (h2 : PSsg X rest u2) : PSsg X (st :: rest) (tSeq u1 u2) := by
  refine ⟨fun G pins s σ H D I eg h => ?_⟩
  refine wpAny_execs_cons (thn (h1.run G pins s σ H _ I eg h) fun f sa qa => ?_)
  cases f with
  | next =>
    obtain ⟨⟨σ1, Ha, Ia, q1⟩, ega⟩ := qa
    exact h2.run G pins sa σ1 Ha D Ia ega q1
  | ret v => exact qa
  | brk => exact qa
  | cont => exact qa
end
/-! ### a for over a generator of the program's own: the two sides' invariants -/
section
open PyProof.Rows GenW
def cutH (h : Heap) (n : Nat) : Heap := { h with objs := h.objs.extract 0 n }
theorem cutH_size {h : Heap} {n : Nat} (hn : n ≤ h.objs.size) : (cutH h n).objs.size = n := by
  show (h.objs.extract 0 n).size = n
  rw [Array.size_extract]
  omega
theorem cut_at {α : Type} (xs : Array α) {n b : Nat} (hb : b < n) : (xs.extract 0 n)[b]? = xs[b]? := by
  rw [Array.getElem?_extract]
  by_cases c : b < xs.size
  · rw [if_pos (by omega), Nat.zero_add]
  · rw [if_neg (by omega)]
    exact (Array.getElem?_eq_none (by omega)).symm
theorem cutH_get {h : Heap} {n : Nat} {b : Addr} (hb : b < n) : (cutH h n).get? b = h.get? b := by
  unfold Heap.get?
  show (match (h.objs.extract 0 n)[b]? with | some ⟨_, _, .freed, _⟩ => none | o => o) = _
  rw [cut_at h.objs hb]
  rfl
theorem ext_lt {α : Type} {xs : Array α} {n b : Nat} (h : b < (xs.extract 0 n).size) : b < n := by
  rw [Array.size_extract] at h
  omega
theorem cutH_some {h : Heap} {n : Nat} {b : Addr} {o : Obj} (e : (cutH h n).get? b = some o) : b < n ∧ h.get? b = some o := by
  have lt : b < n := ext_lt (xs := h.objs) (Heap.lt_size e)
  exact ⟨lt, by rw [← cutH_get lt]; exact e⟩
/-- the context of the generator's frame, woken at s with H; n0: its names' place -/
def gx (Xc : Cx) (N : List Str) (qual : Str) (scope : Scope) (f : Addr) (cd : Value) (n0 : Nat) (s : Shared) (H : Hp) : Cx where
  prog := Xc.prog
  w := Xc.w
  K := Xc.K
  mg := Xc.mg
  base := Xc.base
  A := Xc.A.in1.deeper (envOfC qual scope n0 f cd)
  N := N
  s_0 := { s with heap := cutH s.heap n0 }
  H_0 := H
  env := envOfC qual scope n0 f cd
  outer := Xc.stack
  stack := envOfC qual scope n0 f cd :: Xc.stack
  ex := []
  calm := true
  fn := fun _ => true
  pn := []
  xe := fun _ _ => False
/-- what the generator's slots hold, by its names' object -/
def LocG (N : List Str) (qual : Str) (scope : Scope) (f : Addr) (cd : Value) (n0 : Nat) (σ : L2.St) (h : Heap) : Prop :=
  ∃ m, h.Ns n0 m ∧ ∀ (i : Nat) (x : Str) (v : V), N[i]? = some x → σ[i]? = some (some v) → Vis scope x → ∃ u, RelV v u ∧ Look (envOfC qual scope n0 f cd) h m x u
variable {Xc : Cx} {N : List Str} {qual : Str} {scope : Scope} {f : Addr} {cd : Value} {n0 : Nat} {pins : List (Addr × Obj)} {σc σg : L2.St} {H H1 : Hp} {s s1 : Shared}
/-- no cells in the generator's scope -/
def NoCell (scope : Scope) : Prop := ∀ x, scope.names.lookup x ≠ some .cell ∧ scope.names.lookup x ≠ some .free
/-- the generator's side, from the consumer's -/
theorem gx_inv (I : Inv Xc pins σc H s) (calm : Xc.calm = true) (kind : scope.kind = .function) (nc : NoCell scope) (cl : (envOfC qual scope n0 f cd).cells = []) (hbz : Xc.base.objs.size ≤ n0) (hs : n0 < s.heap.objs.size) (hf : ∀ b ∈ frs Xc.stack, b < n0) (hn : H n0 = none)
    (hl : LocG N qual scope f cd n0 σg s.heap) (len : σg.length = N.length)
    {pg : List (Addr × Obj)} (hpg : ∀ p ∈ pg, s.heap.get? p.1 = some p.2 ∧ H p.1 = none ∧ p.1 ≠ n0 ∧ p.1 ∉ frs Xc.stack ∧ ∀ v, p.2.data ≠ .cell v) : Inv (gx Xc N qual scope f cd n0 s H) pg σg H s := by
  have hz : (cutH s.heap n0).objs.size = n0 := cutH_size (Nat.le_of_lt hs)
  have nol : ∀ x c, (envOfC qual scope n0 f cd).cells.lookup x = some c → False := fun x c e => by
    rw [cl] at e
    cases e
  have e0 := I.env0
  have ff : ∀ {l : List Env}, (∀ b ∈ frs l, b < n0) → s.heap.FunFrames Xc.base l → (cutH s.heap n0).FunFrames Xc.base l := by
    intro l
    induction l with
    | nil => intro _ _; trivial
    | cons ev r ih =>
      intro hb ⟨q1, ⟨L, o, q2, q3, q4, q5⟩, q6⟩
      have mem : L ∈ frs (ev :: r) := by
        unfold frs
        exact List.mem_filterMap.mpr ⟨ev, List.mem_cons_self, q2⟩
      refine ⟨q1, ⟨L, o, q2, q3, ?_, q5⟩, ih (fun b hb2 => hb b ?_) q6⟩
      · rw [cutH_get (hb L mem)]
        exact q4
      · unfold frs at *
        obtain ⟨e', he', hh⟩ := List.mem_filterMap.mp hb2
        exact List.mem_filterMap.mpr ⟨e', List.mem_cons_of_mem _ he', hh⟩
  refine ⟨⟨I.ok.mod, kind, rfl, rfl, ?_, fun x y c q _ => (nol x c q).elim, fun x q => ?_, fun x c _ q => (nol x c q).elim, fun _ => ?_, Around.frames_deeper e0.in1.frames, .inr ⟨rfl, rfl⟩, fun b z => absurd z (by show b ∉ ([] : List Addr); simp), fun b o e => ?_, ?_, fun b _ _ => by show b ∉ ([] : List Addr); simp, fun b z => absurd z (by show b ∉ ([] : List Addr); simp), ff hf I.stack, I.stkFree⟩,
    rfl, I.bare, ⟨fun b o e _ _ _ => (cutH_some e).2, fun b o e _ _ _ => ⟨o.slots, (cutH_some e).2⟩, fun _ _ _ n _ => n, fun b o e _ => ⟨o, (cutH_some e).2⟩, fun _ _ e => e, fun _ _ _ e => e, fun _ _ e => ⟨#[], by rw [show (gx Xc N qual scope f cd n0 s H).H_0 = H from rfl] at e; rw [e]; simp⟩⟩,
    hl, fun x c q => (nol x c q).elim, hn, fun x c q => (nol x c q).elim, fun p hp => hpg p hp, I.hok, len⟩
  · show (cutH s.heap n0).objs.size ≤ n0
    rw [hz]
    exact Nat.le_refl _
  · rcases q with q | q
    · exact absurd q (nc x).1
    · exact absurd q (nc x).2
  · exact I.ok.hd calm
  · have q := I.bs b o e
    refine ⟨?_, q.2⟩
    show (cutH s.heap n0).get? b = some o
    rw [cutH_get (Nat.lt_of_lt_of_le (Heap.lt_size e) hbz)]
    exact q.1
  · show Xc.base.objs.size ≤ (cutH s.heap n0).objs.size
    rw [hz]
    exact hbz
/-- back from the generator's side to the consumer's -/
theorem gx_back {pg : List (Addr × Obj)} (I : Inv Xc pins σc H s) (J : Inv (gx Xc N qual scope f cd n0 s H) pg σg H1 s1) (nc : Xc.env.cells = []) (h0 : Xc.s_0.heap.objs.size ≤ n0) (hL : Xc.env.locals < n0) (hp : ∀ p ∈ Xc.pn ++ pins, p.1 < n0) {G : Array GenState} (hG : AllBare G) :
    Inv Xc pins σc H1 { s1 with gens := G } := by
  have u : Un (frs Xc.stack) [] H H1 (cutH s.heap n0) s1.heap := J.base
  have cut : ∀ {b : Addr} {o : Obj}, b < n0 → s.heap.get? b = some o → (cutH s.heap n0).get? b = some o := fun {b o} lt e => (cutH_get lt).trans e
  have old : ∀ {b : Addr} {o : Obj}, Xc.s_0.heap.get? b = some o → b < n0 := fun {b o} e => Nat.lt_of_lt_of_le (Heap.lt_size e) h0
  have nst : ∀ {b : Addr} {o : Obj}, Xc.s_0.heap.get? b = some o → b ∉ Xc.fs → b ∉ frs Xc.stack := fun {b o} e hb hm => by
    rcases List.mem_cons.mp (I.stkSub b hm) with z | z
    · rw [z] at e
      exact absurd (Nat.lt_of_lt_of_le (Heap.lt_size e) I.ok.above) (Nat.lt_irrefl _)
    · exact hb z
  have nol : ∀ x c, Xc.env.cells.lookup x = some c → False := fun x c e => by
    rw [nc] at e
    cases e
  obtain ⟨m, ⟨oL, es, ep, hoL, rL⟩, hl⟩ := id I.loc
  obtain ⟨slL, hoL1⟩ := u.any (cut hL hoL) I.free (by simp)
  refine ⟨I.ok, J.os.trans I.os, hG, ⟨fun b o e n hb hx => ?_, fun b o e n hb hx => ?_, fun b o e n hx => ?_, fun b o e hx => ?_, fun b xs e => u.tups b xs (I.base.tups b xs e), fun b o v e => u.frzs b o v (I.base.frzs b o v e), fun b ps e => ?_⟩, ⟨m, ⟨_, es, ep, hoL1, rL⟩, fun i x v q1 q2 q3 => ?_⟩, fun x c e => (nol x c e).elim, ?_, fun x c e => (nol x c e).elim, fun p q => ?_, J.hok, I.len⟩
  · exact u.keep b o (cut (old e) (I.base.keep b o e n hb hx)) (I.base.free b o e n hx) (nst e hb) (by simp)
  · obtain ⟨sl, e1⟩ := I.base.slot b o e n hb hx
    obtain ⟨sl2, e2⟩ := u.any (cut (old e) e1) (I.base.free b o e n hx) (by simp)
    exact ⟨sl2, e2⟩
  · obtain ⟨o', e1⟩ := I.base.there b o e hx
    exact u.free b o' (cut (old e) e1) (I.base.free b o e n hx) (by simp)
  · obtain ⟨o', e1⟩ := I.base.there b o e hx
    exact u.there b o' (cut (old e) e1) (by simp)
  · obtain ⟨m1, e1⟩ := I.base.tbls b ps e
    obtain ⟨m2, e2⟩ := u.tbls b _ e1
    exact ⟨m1 ++ m2, by rw [e2, Array.append_assoc]⟩
  · obtain ⟨z, r, lk⟩ := hl i x v q1 q2 q3
    refine ⟨z, r, ?_⟩
    rcases lk with ⟨k1, k2⟩ | ⟨_, c, k2, _⟩
    · exact .inl ⟨k1, k2⟩
    · exact (nol x c k2).elim
  · exact u.free _ oL (cut hL hoL) I.free (by simp)
  · obtain ⟨q1, q2, q3, q4, q5⟩ := I.pin p q
    refine ⟨u.keep p.1 p.2 (cut (hp p q) q1) q2 (fun hm => ?_) (by simp), u.free p.1 p.2 (cut (hp p q) q1) q2 (by simp), q3, q4, q5⟩
    rcases List.mem_cons.mp (I.stkSub p.1 hm) with z | z
    · exact q3 z
    · exact q4 z
end
section
open PyProof.Rows GenW
variable {Xc : Cx} {pins : List (Addr × Obj)} {σ : L2.St} {H : Hp} {s : Shared}
theorem LocG.keep {N : List Str} {qual : Str} {scope : Scope} {f : Addr} {cd : Value} {n0 : Nat} {σg : L2.St} {h h' : Heap} (cl : (envOfC qual scope n0 f cd).cells = []) (l : LocG N qual scope f cd n0 σg h) (e : ∀ o, h.get? n0 = some o → h'.get? n0 = some o) : LocG N qual scope f cd n0 σg h' := by
  obtain ⟨m, ⟨o, es, ep, ho, r⟩, q⟩ := l
  refine ⟨m, ⟨o, es, ep, e o ho, r⟩, fun i x v q1 q2 q3 => ?_⟩
  obtain ⟨u, ru, lk⟩ := q i x v q1 q2 q3
  refine ⟨u, ru, ?_⟩
  rcases lk with k | ⟨_, c, k2, _⟩
  · exact .inl k
  · rw [cl] at k2
    cases k2
/-- a generator that has just been made -/
def GNew (N : List Str) (qual : Str) (scope : Scope) (f : Addr) (cd : Value) (body : List Stmt) (vs : List V) (s : Shared) (u : Value) (s' : Shared) : Prop :=
  ∃ (a : Addr) (g : Nat), u = .ref a ∧ s.heap.objs.size < a ∧ s'.heap.IsGen a g ∧ s'.gens[g]? = some (.fresh (.func body (envOfC qual scope s.heap.objs.size f cd))) ∧ s'.os = s.os ∧ AllBare s'.gens ∧
    (∀ b o, s.heap.get? b = some o → s'.heap.get? b = some o) ∧ LocG N qual scope f cd s.heap.objs.size (start N vs) s'.heap ∧ ∃ o, s'.heap.get? s.heap.objs.size = some o ∧ ∀ v, o.data ≠ .cell v
theorem gen_new {k : Nat} {f : Addr} {name qual : Str} {params : Arguments} {body : List Stmt} {scope : Scope} {dV kV doc pm cdv ct oc : Value} {an od : Option Addr} {osl : Array (Option Value)} {N ps : List Str} {us : List Value} {vs : List V} {args : Args}
    (lk : Xc.K.lookup f = some ⟨oc, od, .func (PySem.W.fnOf name qual params body scope dV kV doc pm an cdv ct), osl⟩) (hcd : PySem.W.codeIn Xc.K cdv qual = true) (S : GScope N ps scope) (I : Inv Xc pins σ H s) (hr : Room k Xc.A)
    (hb : BindsTo s (PySem.W.fnOf name qual params body scope dV kV doc pm an cdv ct) args (ps.zip us)) (r : Vals vs us) (hl : vs.length = ps.length) :
    codeAny (model Xc.prog Xc.w) Xc.A (.call (.ref f) args) (fun r s' => match r with | .ok (.ret u) => GNew N qual scope f cdv body vs s u s' | _ => False) s := by
  have KX : Xc.K.In s.heap := I.kIn
  have e0 := I.env0
  have hk : ∀ y ∈ ps.zip us, scope.names.lookup y.1 = some .local ∨ (scope.names.lookup y.1 = some .cell ∧ ((cellsFrom (s.heap.objs.size + 1) scope.names []).lookup y.1).isSome = true) := by
    rintro ⟨n, v⟩ hy
    rcases S.par n (List.of_mem_zip hy).1 with q | q
    · exact .inl q
    · exact .inr ⟨q, PySem.W.cellsFrom_some _ _ _ (.inl q)⟩
  refine codeAny_call_generator hr.depth (KX _ _ lk) rfl S.co S.gen rfl (PySem.W.codeRec_of KX hcd) (hb _ _ _ _ ?_)
  refine wpAny_newFunctionEnv_cells S.kind hk fun env he s1 x => ?_
  subst he
  have J := inv_startG (E := fun _ _ _ => False) S hr.hd e0 hl r x
  obtain ⟨h1, tk, es1, hk1⟩ := x.done
  have lt : s.heap.objs.size < s1.heap.objs.size := x.toInCall.ns.lt
  have kp : ∀ b o, s.heap.get? b = some o → s1.heap.get? b = some o := x.toInCall.keep
  refine ⟨I.nolimit.keeps kp, ?_⟩
  have up : ∀ (go : Obj) (b : Addr) (o : Obj), s1.heap.get? b = some o → (s1.heap.push go).get? b = some o := fun go b o e => Heap.get?_push_of_some _ e
  obtain ⟨m, ⟨o, xs, ep, ho, rr⟩, q⟩ := J.loc
  refine ⟨s1.heap.objs.size, s1.gens.size, rfl, lt, ⟨_, _, _, Heap.get?_push_size _ rfl, rfl, rfl, rfl⟩, Array.getElem?_push_size .., by rw [es1], ?_, fun b o e => up _ b o (kp b o e), ⟨m, ⟨o, xs, ep, up _ _ o ho, rr⟩, fun i y v q1 q2 q3 => ?_⟩, ⟨o, up _ _ o ho, fun v z => ?_⟩⟩
  · exact AllBare.push (by rw [es1]; exact I.bare) rfl
  · obtain ⟨z, rz, lz⟩ := q i y v q1 q2 q3
    refine ⟨z, rz, ?_⟩
    rcases lz with k | ⟨k1, c, k2, k3⟩
    · exact .inl k
    · obtain ⟨oc, k4, k5⟩ := k3
      exact .inr ⟨k1, c, k2, oc, up _ _ oc k4, k5⟩
  · obtain ⟨z1, z2⟩ := rr
    rw [z] at z1
    cases z1
end
section
open PyProof.Rows GenW
theorem inv_gens {X : Cx} {pins : List (Addr × Obj)} {σ : L2.St} {H : Hp} {s : Shared} (I : Inv X pins σ H s) {G : Array GenState} (hG : AllBare G) : Inv X pins σ H { s with gens := G } :=
  ⟨I.ok, I.os, hG, I.base, I.loc, I.cell, I.free, I.freeC, I.pin, I.hok, I.len⟩
/-- one plain statement of a generator's body -/
theorem seg_plain {X : Cx} {A : Around} {R : GenEnd} {Y : Protocol} {n : Nat} {s₀ s : Shared} {c : Code} {fs : List Frame} {K : Flow → Sem PySem.Fin} {J : Value → Sem PySem.Fin} {gd : Bool → Bool} {lv : List Value → List Value} {st : Stmt} {t : TS} {pg : List (Addr × Obj)} {σ : L2.St} {H : Hp}
    (ho : A.over c fs = X.A) (hx : X.xe = fun _ _ => False) (hs : PS X st t) (I : Inv X pg σ H s) (Nx : L2.St → Hp → Prop) (ht : t { nx := Nx, rt := fun _ _ => False } σ H)
    (k : ∀ σ' H' s', Inv X pg σ' H' s' → Nx σ' H' → Seg (model X.prog X.w) A R Y n s₀ c (K .next) fs s') : Seg (model X.prog X.w) A R Y n s₀ c ((exec st X.env).wrap K J gd lv) fs s := by
  refine seg_wrap ?_
  rw [ho]
  refine wpAny_mono (hs.run pg s σ H _ I ht) (fun fl s' hf => ?_) fun x s' h => ?_
  · cases fl with
    | next =>
      obtain ⟨σ', H', I', q⟩ := hf
      exact k σ' H' s' I' q
    | brk => obtain ⟨_, _, _, q⟩ := hf; exact q.elim
    | cont => obtain ⟨_, _, _, q⟩ := hf; exact q.elim
    | ret v => obtain ⟨_, _, _, _, _, q⟩ := hf; exact q.elim
  · rw [hx] at h
    exact h.elim
/-- all that stands still through the loop -/
structure GFix where
  Xc : Cx
  pins : List (Addr × Obj)
  N : List Str
  qual : Str
  scope : Scope
  f : Addr
  cd : Value
  n0 : Nat
  a : Addr
  go : Obj
  L : List (Nat × Nat)
  W : Nat → V → L2.St → Hp → Prop
  SG : Nat → V → L2.St
  ex : List Addr
/-- what the generator's side must find as it was: its own object and what stands above its frame -/
abbrev GFix.pg (Φ : GFix) (s : Shared) : List (Addr × Obj) := (Φ.a, Φ.go) :: pinsAt Φ.ex s.heap
abbrev GFix.env (Φ : GFix) : Env := envOfC Φ.qual Φ.scope Φ.n0 Φ.f Φ.cd
abbrev GFix.gx (Φ : GFix) (s : Shared) (H : Hp) : Cx := Cp.gx Φ.Xc Φ.N Φ.qual Φ.scope Φ.f Φ.cd Φ.n0 s H
abbrev GFix.loc (Φ : GFix) (σ : L2.St) (h : Heap) : Prop := LocG Φ.N Φ.qual Φ.scope Φ.f Φ.cd Φ.n0 σ h
structure GFix.Ok (Φ : GFix) : Prop where
  calm : Φ.Xc.calm = true
  kind : Φ.scope.kind = .function
  nc : NoCell Φ.scope
  cl : Φ.env.cells = []
  hbz : Φ.Xc.base.objs.size ≤ Φ.n0
  hex : ∀ b ∈ Φ.ex, b ≠ Φ.n0 ∧ b ∉ frs Φ.Xc.stack
  hf : ∀ b ∈ frs Φ.Xc.stack, b < Φ.n0
  lt : Φ.n0 < Φ.a
  cell : ∀ v, Φ.go.data ≠ .cell v
/-- before the i-th item is asked for; xv: the item before it -/
structure GFix.Ready (Φ : GFix) (i : Nat) (xv : V) (σ : L2.St) (H : Hp) (s : Shared) : Prop where
  I : Inv Φ.Xc Φ.pins σ H s
  w : Φ.W i xv σ H
  hn : H Φ.n0 = none
  ha : H Φ.a = none
  ga : s.heap.get? Φ.a = some Φ.go
  loc : Φ.loc (Φ.SG i xv) s.heap
  len : (Φ.SG i xv).length = Φ.N.length
  px : ∀ b ∈ Φ.ex, H b = none ∧ ∃ o, s.heap.get? b = some o ∧ ∀ v, o.data ≠ .cell v
theorem GFix.Ready.gens {Φ : GFix} {i : Nat} {xv : V} {σ : L2.St} {H : Hp} {s : Shared} (r : Φ.Ready i xv σ H s) {G : Array GenState} (hG : AllBare G) : Φ.Ready i xv σ H { s with gens := G } :=
  ⟨inv_gens r.I hG, r.w, r.hn, r.ha, r.ga, r.loc, r.len, r.px⟩
theorem GFix.Ready.side {Φ : GFix} {i : Nat} {xv : V} {σ : L2.St} {H : Hp} {s : Shared} (ok : Φ.Ok) (r : Φ.Ready i xv σ H s) : Inv (Φ.gx s H) (Φ.pg s) (Φ.SG i xv) H s := by
  refine gx_inv r.I ok.calm ok.kind ok.nc ok.cl ok.hbz (Nat.lt_trans ok.lt (Heap.lt_size r.ga)) ok.hf r.hn r.loc r.len fun p hp => ?_
  rcases List.mem_cons.mp hp with hp | hp
  · rw [hp]
    exact ⟨r.ga, r.ha, Nat.ne_of_gt ok.lt, fun z => absurd (ok.hf _ z) (Nat.not_lt.mpr (Nat.le_of_lt ok.lt)), ok.cell⟩
  · obtain ⟨hb, e⟩ := of_pinsAt hp
    obtain ⟨hn, o, e2, hc⟩ := r.px p.1 hb
    obtain rfl : o = p.2 := Option.some.inj (e2.symm.trans e)
    exact ⟨e, hn, (ok.hex p.1 hb).1, (ok.hex p.1 hb).2, hc⟩
def tupOf (st : Nat × Nat) : HO := .tup [.int st.1, .int st.2]
/-- an item is handed out -/
def GFix.Y (Φ : GFix) : Protocol := fun n s₀ v s1 kap => ∃ i xv σ H, i + n = Φ.L.length ∧ Φ.Ready i xv σ H s₀ ∧ ∃ σg H1 u st, Inv (Φ.gx s₀ H) (Φ.pg s₀) σg H1 s1 ∧ v = .ref u ∧ Φ.L[i]? = some st ∧ Same H H1 ∧ H u = none ∧ H1 u = some (tupOf st) ∧
  Φ.loc (Φ.SG (i + 1) (.ref u)) s1.heap ∧ (Φ.SG (i + 1) (.ref u)).length = Φ.N.length ∧ ∀ s' σ' H', Φ.Ready (i + 1) (.ref u) σ' H' s' → kap (.send .none) s'
def GFix.F (Φ : GFix) : Nat → Shared → Shared → Prop := fun n s₀ s1 => ∃ i xv σ H, i + n = Φ.L.length + 1 ∧ Φ.Ready i xv σ H s₀ ∧ Φ.L.length ≤ i ∧ ∃ σg H1, Inv (Φ.gx s₀ H) (Φ.pg s₀) σg H1 s1 ∧ Same H H1
abbrev GFix.R (Φ : GFix) : GenEnd := fun n s₀ r s1 => ((r = .ok (.ret .none) ∨ r = .ok .next) ∧ Φ.F n s₀ s1) ∨ ∃ e, r = .error e ∧ (fun (_ : Value) (_ : Shared) => False) e s1
/-- the generator's run: what the body's proof gives -/
def GFix.Body (Φ : GFix) (body : List Stmt) : Prop := ∀ s σ H xv, Φ.Ready 0 xv σ H s → Seg (model Φ.Xc.prog Φ.Xc.w) Φ.Xc.A.in1 Φ.R Φ.Y (Φ.L.length + 1) s (.func body Φ.env) ((model Φ.Xc.prog Φ.Xc.w).den (.func body Φ.env)) [] s
theorem Around.over_nil {A : Around} {body : List Stmt} {env : Env} : A.over (.func body env) [] = A.deeper env := over_func
/-- a while whose body begins with a yield, the last statement of a generator's body -/
theorem seg_yloop {Φ : GFix} (ok : Φ.Ok) {body : List Stmt} {test e : Expr} {rest : List Stmt} {yp ypos : Pos} {tc : TT} {te : TE} {tr : TS} (HD : Nat → L2.St → Hp → Hp → Prop)
    (hc : ∀ s H, PT (Φ.gx s H) test tc) (he : ∀ s H, PE (Φ.gx s H) e te) (hrest : ∀ s H, PSs (Φ.gx s H) rest tr)
    (h1 : ∀ i xv σc H σ H1, Φ.W i xv σc H → HD i σ H H1 → tc σ H1 fun b H2 => if b = true then te σ H2 fun y H3 => ∃ st u, y = .ref u ∧ Φ.L[i]? = some st ∧ Same H H3 ∧ H u = none ∧ H3 u = some (tupOf st) ∧ σ = Φ.SG (i + 1) (.ref u) else Φ.L.length ≤ i ∧ Same H H2)
    (h2 : ∀ i xv σc H, Φ.W (i + 1) xv σc H → tr { nx := fun σ' H' => HD (i + 1) σ' H H', rt := fun _ _ => False } (Φ.SG (i + 1) xv) H)
    (hlen : ∀ i xv, (Φ.SG i xv).length = Φ.N.length)
    {K : Flow → Sem PySem.Fin} {J : Value → Sem PySem.Fin} {gd : Bool → Bool} {lv : List Value → List Value} {p : Pos} (hgd : gd false = false)
    (hK : ∀ n s₀ s1, Φ.F n s₀ s1 → Seg (model Φ.Xc.prog Φ.Xc.w) Φ.Xc.A.in1 Φ.R Φ.Y n s₀ (.func body Φ.env) (K .next) [] s1)
    (hco : Φ.env.scope.isCoroutine = false) (hi : interactive Φ.env = false) :
    ∀ (m i : Nat) (s₀ s1 : Shared) (σc σ : L2.St) (H H1 : Hp) (xv : V), i + m = Φ.L.length → Φ.Ready i xv σc H s₀ → Inv (Φ.gx s₀ H) (Φ.pg s₀) σ H1 s1 → HD i σ H H1 →
      Seg (model Φ.Xc.prog Φ.Xc.w) Φ.Xc.A.in1 Φ.R Φ.Y (m + 1) s₀ (.whileLoop test (.Expr (.Yield (some e) yp) ypos :: rest) [] Φ.env) ((model Φ.Xc.prog Φ.Xc.w).den (.whileLoop test (.Expr (.Yield (some e) yp) ypos :: rest) [] Φ.env))
        (.ret (fun r => ((match r with | .ok f => (.pure f : Sem Flow) | .error e => .raise e).onRaise (cameBack Φ.env)).wrap K J gd lv) none (gd false) (lv []) (.func body Φ.env) p [] :: []) s1 := by
  have ov : ∀ (kk : Result → Sem PySem.Fin), Φ.Xc.A.in1.over (.whileLoop test (.Expr (.Yield (some e) yp) ypos :: rest) [] Φ.env) (.ret kk none (gd false) (lv []) (.func body Φ.env) p [] :: []) = Φ.Xc.A.in1.deeper Φ.env := fun kk => (over_loop rfl rfl).trans over_func
  intro m
  induction m using Nat.strongRecOn with
  | ind m ih =>
    intro i s₀ s1 σc σ H H1 xv him hR I hd
    refine seg_whileLoop ?_
    rw [ov]
    refine wpAny_mono ((hc s₀ H).run _ s1 σ H1 _ I (h1 i xv σc H σ H1 hR.w hd)) (fun b s2 hb => ?_) fun x s2 hx => (show False from hx).elim
    obtain ⟨H2, I2, q2⟩ := hb
    cases b with
    | false =>
      have q3 : Φ.L.length ≤ i ∧ Same H H2 := by
        have := q2
        rw [if_neg Bool.false_ne_true] at this
        exact this
      rw [if_neg Bool.false_ne_true]
      refine seg_execs_nil ?_
      exact seg_leaf (.ok .next) (hK (m + 1) s₀ s2 ⟨i, xv, σc, H, by omega, hR, q3.1, σ, H2, I2, q3.2⟩)
    | true =>
      rw [if_pos rfl] at q2 ⊢
      refine seg_execs_cons ?_
      refine seg_Expr_Yield ?_ rfl ?_ ?_ hco hi
      · rfl
      · show (gd false || false) = false
        rw [hgd]
        rfl
      rw [ov]
      refine wpAny_mono ((he s₀ H).run _ s2 σ H2 _ I2 q2) (fun v s3 hv => ?_) fun x s3 hx => (show False from hx).elim
      obtain ⟨y, H3, I3, rv, st, u, rfl, hL, s3', hu, hu3, hσ⟩ := hv
      have ev : v = Value.ref u := rv
      intro kap hk
      have lt : i < Φ.L.length := (List.getElem?_eq_some_iff.mp hL).1
      refine ⟨i, xv, σc, H, him, hR, σ, H3, u, st, I3, ev, hL, s3', hu, hu3, by rw [← hσ]; exact I3.loc, hlen _ _, fun s' σ' H' hR' => hk .none s' ?_⟩
      -- woken again
      obtain ⟨m', rfl⟩ : ∃ k, m = k + 1 := ⟨m - 1, by omega⟩
      have I4 := hR'.side ok
      show Seg _ _ _ _ (m' + 1) s' _ ((execs rest Φ.env).wrap _ _ _ _) _ s'
      refine seg_wrap ?_
      rw [ov]
      refine wpAny_mono ((hrest s' H').run _ s' _ H' _ I4 (h2 i (.ref u) σ' H' hR'.w)) (fun fl s5 hf => ?_) fun x s5 hx => (show False from hx).elim
      cases fl with
      | next =>
        obtain ⟨σ5, H5, I5, q5⟩ := hf
        exact seg_again rfl (ih m' (Nat.lt_succ_self _) (i + 1) s' s5 σ' σ5 H' H5 (.ref u) (by omega) hR' I5 q5)
      | brk => obtain ⟨_, _, _, q⟩ := hf; exact q.elim
      | cont => obtain ⟨_, _, _, q⟩ := hf; exact q.elim
      | ret v => obtain ⟨_, _, _, _, _, q⟩ := hf; exact q.elim
end
/-! ### the body of route, woken again and again -/
section
open PyProof.Rows GenW
def routeSG (x : Addr) (hs dy lim : Nat) : Nat → V → L2.St
  | 0, _ => [some (.ref x), some (.int hs), some (.int dy), some (.int lim), none, none]
  | i + 1, xv => [some (.ref x), some (.int hs), some (.int dy), some (.int lim), some xv, some (.int i)]
def routeΦ (Xc : Cx) (pins : List (Addr × Obj)) (f : Addr) (cd : Value) (n0 a : Addr) (go : Obj) (x : Addr) (hs dy lim : Nat) (L : List (Nat × Nat)) (W : Nat → V → L2.St → Hp → Prop) (ex : List Addr := []) : GFix :=
  { Xc := Xc, pins := pins, N := N_Net_route, qual := "Net.route", scope := defScope s_Net_route, f := f, cd := cd, n0 := n0, a := a, go := go, L := L, W := W, SG := routeSG x hs dy lim, ex := ex }
variable {P : Program} {w : World} {K : PySem.W.Frag} {mg : Str → Option Value} {base : Heap}
theorem route_body {C : Addr} {fS : Addr} {fdS : FuncData} {Xc : Cx} {pins : List (Addr × Obj)} {f : Addr} {cd : Value} {n0 a : Addr} {go : Obj} {x t : Addr} {p h hs dy lim : Nat} {os : List Od} {F : List Addr} {W : Nat → V → L2.St → Hp → Prop} {ex : List Addr}
    (T : NetT Xc.K C) (DL : Df Xc.prog Xc.w Xc.K Xc.mg Xc.base "check_letter" 4 P_check_letter (spLetter C)) (GS : FnOk Xc.prog Xc.w Xc.K Xc.mg Xc.base CX0 2 fS fdS P_Net_stop_after (spStop C)) (mS : Meth Xc.K C "stop_after" fS) (bS : Binds Xc.K fdS P_Net_stop_after [])
    (hr : Room 6 Xc.A) (nok : NetOk p h os) (hh : hs < h) (hd : dy ≤ 1000000000000000000) (ok : (routeΦ Xc pins f cd n0 a go x hs dy lim (way p os lim (hs, dy)) W ex).Ok)
    (hW : ∀ i xv σ H, W i xv σ H → NetAt C H x p h os t F ∧ ∀ j, i = j + 1 → ∃ st, (way p os lim (hs, dy))[j]? = some st ∧ StopAt H xv st) :
    (routeΦ Xc pins f cd n0 a go x hs dy lim (way p os lim (hs, dy)) W ex).Body (defBody s_Net_route) := by
  obtain ⟨fL, fdL, gL, kL, bL, GL⟩ := DL
  have hp : 0 < p := nok.p1
  have hrA : Room 4 (Xc.A.in1.deeper (envOfC "Net.route" (defScope s_Net_route) n0 f cd)) := hr.in1.deeper _
  have hr1 : Room 2 (Xc.A.in1.deeper (envOfC "Net.route" (defScope s_Net_route) n0 f cd)) := hrA.mono (by decide)
  have ndR : N_Net_route.Nodup := gsc_route.nd
  let HD : Nat → L2.St → Hp → Hp → Prop := fun i σ H H1 => Same H H1 ∧ i ≤ lim ∧ ∃ (v : V) (cur : Option (Nat × Nat)), σ = [some (.ref x), some (.int hs), some (.int dy), some (.int lim), some v, some (.int i)] ∧
    (way p os lim (hs, dy)).drop i = rest p os (lim - i) cur ∧ (∀ st, cur = some st → st.1 < h ∧ ∃ u, v = .ref u ∧ H u = none ∧ H1 u = some (tupOf st)) ∧ (cur = none → v = .non)
  intro s σ H xv hR
  have I0 := hR.side ok
  refine seg_func ?_
  -- check_letter(self, house, day)
  refine seg_execs_cons (seg_plain over_func rfl (X := (routeΦ Xc pins f cd n0 a go x hs dy lim (way p os lim (hs, dy)) W ex).gx s H) (ps_expr (pe_call GL hrA (by rfl) gL kL bL .nil pass0 (pa_cons (pv 0) (pa_cons (pv 1) (pa_cons (pv 2) pa_nil))))) I0
    (fun σ' H' => σ' = [some (.ref x), some (.int hs), some (.int dy), some (.int lim), none, none] ∧ H' = H) ?_ fun σ1 H1 s1 I1 q1 => ?_)
  · exact ⟨_, rfl, _, rfl, _, rfl, x, t, p, h, hs, dy, os, F, rfl, (hW 0 xv σ H hR.w).1, hh, hd, rfl, rfl⟩
  obtain ⟨rfl, rfl⟩ := q1
  -- stop = (house, day)
  refine seg_execs_cons (seg_plain over_func rfl (X := (routeΦ Xc pins f cd n0 a go x hs dy lim (way p os lim (hs, dy)) W ex).gx s H1) (ps_set (i := 4) ndR rfl (.inl rfl) (pe_tup (pa_cons (pv 1) (pa_cons (pv 2) pa_nil)))) I1
    (fun σ' H' => ∃ u, σ' = [some (.ref x), some (.int hs), some (.int dy), some (.int lim), some (.ref u), none] ∧ H1 u = none ∧ H' = upd H1 u (tupOf (hs, dy))) ?_ fun σ2 H2 s2 I2 q2 => ?_)
  · exact ⟨_, rfl, _, rfl, (by show 2 ≤ sizeLine; decide), fun u nu => ⟨u, rfl, nu, rfl⟩⟩
  obtain ⟨u, rfl, nu, rfl⟩ := q2
  -- count = 0
  refine seg_execs_cons (seg_plain over_func rfl (X := (routeΦ Xc pins f cd n0 a go x hs dy lim (way p os lim (hs, dy)) W ex).gx s H1) (ps_set (i := 5) ndR rfl (.inl rfl) pe_int) I2
    (fun σ' H' => σ' = [some (.ref x), some (.int hs), some (.int dy), some (.int lim), some (.ref u), some (.int (0 : Nat))] ∧ H' = upd H1 u (tupOf (hs, dy))) ⟨rfl, rfl⟩ fun σ3 H3 s3 I3 q3 => ?_)
  obtain ⟨rfl, rfl⟩ := q3
  -- the loop
  refine seg_execs_cons (seg_While fun pq => ?_)
  refine seg_yloop (Φ := routeΦ Xc pins f cd n0 a go x hs dy lim (way p os lim (hs, dy)) W ex) ok HD
    (tr := tSeq (tAug 5 (tC (.int 1)) rAdd) (tAsg (tMeth C "stop_after" (spStop C) [] E0 (tVar 0) (tCons (tOp (rIxT Xc.K) (tVar 4) (tC (.int 0))) (tCons (tOp (rIxT Xc.K) (tVar 4) (tC (.int 1))) tNil))) (gName 4)))
    (fun s H => PW.pt (pw_and (pt_cmpR op_notN (pv 4) pe_non (nomark _)) (pw_and1 (pt_cmpR op_lt (pv 5) (pv 3) (nomark _)))))
    (fun s H => pv 4)
    (fun s H => pss_cons (ps_aug (i := 5) ndR rfl (.inl rfl) pe_int ip_add) (pss_one (ps_set (i := 4) ndR rfl (.inl rfl) (pe_meth (pv 0) T.cl mS GS hr1 bS .nil pass0 (pa_cons (pe_ix ix_tup (pv 4) pe_int (fun _ _ => rfl)) (pa_cons (pe_ix ix_tup (pv 4) pe_int (fun _ _ => rfl)) pa_nil))))))
    ?_ ?_ ?_ rfl ?_ rfl rfl (way p os lim (hs, dy)).length 0 s s3 σ _ H1 _ xv (Nat.zero_add _) hR I3 ⟨same_upd nu, Nat.zero_le _, .ref u, some (hs, dy), rfl, rfl, fun st e => ?_, fun e => by cases e⟩
  · rintro i xv' σc H σ' H' hw ⟨s1', hi, v, cur, rfl, hdr, hcur, hnon⟩
    refine ⟨_, rfl, rfl, _, rfl, ?_⟩
    cases cur with
    | none =>
      rw [hnon rfl]
      refine iteF ?_
      show (way p os lim (hs, dy)).length ≤ i ∧ Same H H'
      exact ⟨List.drop_eq_nil_iff.mp hdr, s1'⟩
    | some st =>
      obtain ⟨hs1, u1, rfl, hu0, hu1⟩ := hcur st rfl
      refine iteT ⟨_, rfl, _, rfl, _, _, rfl, rfl, _, rfl, ?_⟩
      by_cases c : (i : Int) < lim
      · rw [decide_eq_true c]
        have e1 : lim - i = (lim - i - 1) + 1 := by omega
        rw [e1, rest_succ] at hdr
        have hL : (way p os lim (hs, dy))[i]? = some st := by
          have := congrArg (fun l => l[0]?) hdr
          simp only [List.getElem?_drop, Nat.add_zero] at this
          exact this
        exact ⟨.ref u1, rfl, st, u1, rfl, hL, s1', hu0, hu1, rfl⟩
      · rw [decide_eq_false c]
        have e1 : lim - i = 0 := by omega
        rw [e1, rest_zero] at hdr
        exact ⟨List.drop_eq_nil_iff.mp hdr, s1'⟩
  · intro i xv' σc H hw
    obtain ⟨Nt, hst⟩ := hW _ _ _ _ hw
    obtain ⟨st, hL, u1, rfl, hu1⟩ := hst i rfl
    have hil : i < (way p os lim (hs, dy)).length := (List.getElem?_eq_some_iff.mp hL).1
    have hlim := way_len p os lim (hs, dy)
    have hdr := way_drop hL
    have e1 : lim - i = (lim - (i + 1)) + 1 := by omega
    rw [e1, show way p os (lim - (i + 1) + 1) st = rest p os (lim - (i + 1) + 1) (some st) from rfl, rest_succ] at hdr
    have hsth : st.1 < h := way_house nok hh _ (List.mem_of_getElem? hL)
    obtain ⟨dx, fl, as, e0, hx, _⟩ := id Nt
    refine ⟨_, rfl, _, _, rfl, rfl, ?_⟩
    refine ⟨_, rfl, x, dx, _, rfl, hx, nf_no (by decide +kernel) (by decide +kernel) (by decide +kernel) (by decide +kernel), _, rfl, u1, _, 0, _, rfl, rfl, SqT.of hu1, atI_nat (j := 0) rfl, _, rfl, u1, _, 1, _, rfl, rfl, SqT.of hu1, atI_nat (j := 1) rfl, ?_⟩
    refine ⟨x, t, p, h, st.1, st.2, os, F, rfl, Nt, hp, hsth, fun H2 v s2 hv => ?_⟩
    refine ⟨s2, by omega, v, hop p os st, rfl, ?_, fun st' e => ?_, fun e => ?_⟩
    · have := congrArg (List.drop 1) hdr
      rw [List.drop_drop] at this
      exact this
    · rw [show hop p os (st.1, st.2) = some st' from e] at hv
      obtain ⟨y, f1, f2, f3⟩ := hv
      exact ⟨hop_house nok e, y, f1, f2, f3⟩
    · rw [show hop p os (st.1, st.2) = none from e] at hv
      exact hv
  · intro i xv'
    cases i <;> rfl
  · intro n s₀ s1 hF
    refine seg_execs_nil ?_
    exact seg_end (.ok (.ret .none)) (.inl ⟨.inl rfl, hF⟩)
  · cases e
    exact ⟨hh, u, rfl, nu, upd_same⟩
end
/-! ### for stop in net.route(house, day, limit): .. -/
section
open PyProof.Rows GenW
def tForR (C : Addr) (to : TE) (t : TA) (g : TG) (tb : TS) : TS := fun D σ H => to σ H fun xv H1 => ∃ x dx fs, xv = .ref x ∧ H1 x = some (.ins C dx fs) ∧ fs.lookup ("route" : Str) = none ∧ t σ H1 fun vs H2 =>
  ∃ (t : Addr) (p h hs dy lim : Nat) (os : List Od) (F : List Addr), vs = [.int hs, .int dy, .int lim] ∧ NetAt C H2 x p h os t F ∧ NetOk p h os ∧ hs < h ∧ dy ≤ 1000000000000000000 ∧
  ∃ W : Nat → V → L2.St → Hp → Prop, W 0 .non σ H2 ∧ ∀ i xv σ H, W i xv σ H → NetAt C H x p h os t F ∧ (∀ j, i = j + 1 → ∃ st, (way p os lim (hs, dy))[j]? = some st ∧ StopAt H xv st) ∧
    ((way p os lim (hs, dy)).length ≤ i → ∀ H1, Same H H1 → D.nx σ H1) ∧
    ∀ st u H1, (way p os lim (hs, dy))[i]? = some st → Same H H1 → H u = none → H1 u = some (tupOf st) → g (.ref u) σ H1 fun σ2 H2 => tb { D with nx := W (i + 1) (.ref u), ct := W (i + 1) (.ref u), bk := D.nx } σ2 H2
theorem route_kinds : ∀ y ∈ (defScope s_Net_route).names, y.2 ≠ .cell ∧ y.2 ≠ .free := by decide +kernel
theorem route_nocell : NoCell (defScope s_Net_route) := fun _ => ⟨fun e => (route_kinds _ (PySem.mem_of_lookup e)).1 rfl, fun e => (route_kinds _ (PySem.mem_of_lookup e)).2 rfl⟩
theorem ps_for_route {Xc : Cx} {C fR fS : Addr} {fdR fdS : FuncData} {o e : Expr} {es : List Expr} {body : List Stmt} {to : TE} {t : TA} {tb : TS} {j : Nat} {y : Str} {py apos cpos pos : Pos} {pl : Sem Bool}
    (hp : PassesOwn (model Xc.prog Xc.w) Xc.A Xc.env Xc.xe) (hc : Xc.calm = true) (ccl : Xc.env.cells = []) (hr : Room 6 Xc.A) (T : NetT Xc.K C) (FR : Fun Xc.K "route" "Net.route" s_Net_route fR fdR) (mR : Meth Xc.K C "route" fR) (bR : Binds Xc.K fdR P_Net_route [])
    (DL : Df Xc.prog Xc.w Xc.K Xc.mg Xc.base "check_letter" 4 P_check_letter (spLetter C)) (GS : FnOk Xc.prog Xc.w Xc.K Xc.mg Xc.base CX0 2 fS fdS P_Net_stop_after (spStop C)) (mS : Meth Xc.K C "stop_after" fS) (bS : Binds Xc.K fdS P_Net_stop_after [])
    (ho : PE Xc o to) (ha : PA Xc (e :: es) t) (hN : Xc.N.Nodup) (hj : Xc.N[j]? = some y) (hy : Xc.env.scope.names.lookup y = some .local) (hb : PSsg Xc body tb)
    (hst : starEach (e :: es) Xc.env = (false, eval e Xc.env) :: starEach es Xc.env) (hpl : (backTo cpos (starEach es Xc.env)).any (·.1) = false)
    (ht : eval (.Call (.Attribute o "route" apos) (e :: es) [] cpos) Xc.env = (do let ov ← eval o Xc.env; standAt apos.atName; let (fv, fst) ← holding [ov] (getMethod ov "route" pl); callWith cpos fv fst (backTo cpos (starEach (e :: es) Xc.env)) (backToKw cpos (keywordEach [] Xc.env))))
    (hs0 : ∀ z, foldedSetIterable (.Call (.Attribute o "route" apos) (e :: es) [] cpos) Xc.env z = pure z) :
    PS Xc (.For (.Name y py) (.Call (.Attribute o "route" apos) (e :: es) [] cpos) body [] pos) (tForR C to t (gName j) tb) := by
  refine ⟨fun pins s σ H D I h => ?_⟩
  refine wpAny_For ?_ hs0
  refine PySem.W.methodCall_KW (pl := pl) (thn (ho.run pins s σ H _ I h) fun u0 sa ⟨xv, Ha, Ia, ra, x, dx, fs, ex, ex2, lk, q⟩ => ?_) ht
  subst ex
  obtain rfl : u0 = Value.ref x := ra
  refine getmeth_ok Ia ex2 T.cl mR lk ?_
  refine PySem.W.callWith_K (first := [.ref x]) (h₀ := Xc.base) I.ok.mod.kin mR.kp (thn (ha.run cpos pins sa σ Ha _ Ia q) fun us sb ⟨vs, Hb, Ib, rb, q2⟩ => ⟨Ib.kIn, ?_⟩) hst hpl
  obtain ⟨t0, p, h, hs, dy, lim, os, F, rfl, Nt, nok, hh, hd, W, w0, step⟩ := q2
  obtain ⟨oc, od, kV, doc, pm, an, cdv, ct, osl, rfl, lkR, hcd⟩ := FR.ex
  have hlu : (Value.ref x :: us).length = P_Net_route.length := by
    have := rb.length
    show us.length + 1 = 4
    rw [← this]
    rfl
  have hlu2 : (Value.ref x :: us ++ []).length = P_Net_route.length := by rw [List.append_nil]; exact hlu
  refine wpAny_call (codeAny_mono (gen_new (vs := [.ref x, .int hs, .int dy, .int lim]) lkR hcd gsc_route Ib hr (by simpa using bR sb (.ref x :: us) Ib.kIn hlu2) (.cons rfl rb) rfl) fun r sc hq => ?_)
  cases r with
  | error e => exact hq.elim
  | ok fl =>
    cases fl with
    | next => exact hq.elim
    | brk => exact hq.elim
    | cont => exact hq.elim
    | ret u =>
      obtain ⟨a, g, rfl, lt, hgen, hgs, hos, hbare, hkp, hloc, oN, hoN, hcN⟩ := hq
      obtain ⟨go, nm, qn, hgo, hgc, hgd, hgsl⟩ := id hgen
      have isg : ∀ {hx : Heap}, hx.get? a = some go → hx.IsGen a g := fun e => ⟨go, nm, qn, e, hgc, hgd, hgsl⟩
      have glt : g < sc.gens.size := (Array.getElem?_eq_some_iff.mp hgs).1
      refine wpAny_pyIter_gen hgen ?_
      have frlt : ∀ b ∈ frs Xc.stack, b < sb.heap.objs.size := fun b hb => by
        obtain ⟨_, o2, ho2, _⟩ := Ib.stack.mem hb
        exact Heap.lt_size ho2
      have fsub : ∀ b ∈ Xc.fs, b ∈ frs Xc.stack := fun b hm => by
        have hm2 : b ∈ frs Xc.outer := hm
        rcases Ib.ok.stk with e | ⟨e, _⟩
        · rw [e]
          exact hm2
        · rw [e]
          unfold frs at hm2 ⊢
          obtain ⟨ev, q1, q2⟩ := List.mem_filterMap.mp hm2
          exact List.mem_filterMap.mpr ⟨ev, List.mem_cons_of_mem _ q1, q2⟩
      let Φ : GFix := routeΦ Xc pins fR cdv sb.heap.objs.size a go x hs dy lim (way p os lim (hs, dy)) W
      have ok : Φ.Ok := { calm := hc, kind := gsc_route.kind, nc := route_nocell, cl := rfl, hbz := Nat.le_trans Ib.ok.bsz Ib.sz, hex := fun b hb => absurd hb List.not_mem_nil, hf := frlt, lt := lt, cell := fun v z => by have z2 : go.data = .cell v := z; rw [hgd] at z2; cases z2 }
      have h0' : Xc.s_0.heap.objs.size ≤ sb.heap.objs.size := Ib.sz
      have hL' : Xc.env.locals < sb.heap.objs.size := Ib.lt
      have hp' : ∀ p ∈ Xc.pn ++ pins, p.1 < sb.heap.objs.size := fun p hp => Heap.lt_size (Ib.pin p hp).1
      have hW : ∀ i xv σ H, W i xv σ H → NetAt C H x p h os t0 F ∧ ∀ j, i = j + 1 → ∃ st, (way p os lim (hs, dy))[j]? = some st ∧ StopAt H xv st := fun i xv σ H hw => ⟨(step i xv σ H hw).1, (step i xv σ H hw).2.1⟩
      have body0 : Φ.Body (defBody s_Net_route) := route_body T DL GS mS bS hr nok hh hd ok hW
      have R0 : Φ.Ready 0 .non σ Hb sc := ⟨Ib.call' (ch := []) hos (Un.kept hkp) (Ib.hok.kept hkp) hbare (fun b z => by simp at z), w0, Ib.hok.fresh (Nat.le_refl _), Ib.hok.fresh (Nat.le_of_lt lt), hgo, hloc, rfl, fun b hb => absurd hb List.not_mem_nil⟩
      have go0 : (GenState.fresh (.func (defBody s_Net_route) Φ.env)).Goes (model Xc.prog Xc.w) Xc.A.in1 Φ.R Φ.Y (Φ.L.length + 1) (.send .none) (sc.setGen g .running) :=
        ⟨rfl, body0 _ σ Hb .non (R0.gens (G := (sc.setGen g .running).gens) (allBare_setGen hbare rfl))⟩
      refine codeAny_forLoop_any (fun m s' => ∃ i xv σ' H' gs, i + m = Φ.L.length ∧ Φ.Ready i xv σ' H' s' ∧ s'.gens[g]? = some gs ∧ gs.Goes (model Xc.prog Xc.w) Xc.A.in1 Φ.R Φ.Y (m + 1) (.send .none) (s'.setGen g .running)) ?_ Φ.L.length ⟨0, .non, σ, Hb, _, Nat.zero_add _, R0, hgs, go0⟩
      rintro m s3 ⟨i, xv, σ3, H3, gs, him, hR, hgs3, hgo3⟩
      have glt3 : g < s3.gens.size := (Array.getElem?_eq_some_iff.mp hgs3).1
      refine wpAny_passesOwn hp (wpAny_gsz (n := g + 1) glt3 (next_genG (A := Xc.A) (F := Φ.F) (Er := fun _ _ => False) hr.hd hR.I.nolimit (by have := hr.dp; omega) (isg hR.ga) hgs3 hgo3 (fun v s1 gs' hb1 hY hsz => ?_) (fun s1 hF h' hkk _ => ?_) fun e s1 he => he.elim))
      · -- an item
        obtain ⟨i', xv', σ', H', him', hR', σg, Hg, u, st, J, rfl, hL, sm, hu, hu1, hlN, hlen, hk⟩ := hY
        have lti : i' < Φ.L.length := (List.getElem?_eq_some_iff.mp hL).1
        have him2 : i' + m = Φ.L.length := him'
        obtain ⟨k, rfl⟩ : ∃ k, m = k + 1 := ⟨m - 1, by omega⟩
        have pa := J.pin (a, go) (List.mem_append_right _ List.mem_cons_self)
        refine wpAny_passesOwn hp (go_of (s := s1.setGen g gs') pa.1 hgc hgd (by decide) ?_)
        have hG : AllBare (s1.setGen g gs').gens := allBare_setGen J.bare hb1
        have I5 : Inv Xc pins σ' Hg (s1.setGen g gs') := gx_back hR'.I J ccl h0' hL' hp' hG
        obtain ⟨mN, ⟨o1, es1, ep1, ho1, hd1, _⟩, _⟩ := id J.loc
        have I5p : Inv Xc (pins ++ [(sb.heap.objs.size, o1), (a, go)]) σ' Hg (s1.setGen g gs') := by
          refine ⟨I5.ok, I5.os, I5.bare, I5.base, I5.loc, I5.cell, I5.free, I5.freeC, fun p0 hp0 => ?_, I5.hok, I5.len⟩
          rw [← List.append_assoc] at hp0
          rcases List.mem_append.mp hp0 with z | z
          · exact I5.pin p0 z
          · rcases List.mem_cons.mp z with z | z
            · rw [z]
              refine ⟨ho1, J.free, Nat.ne_of_gt hL', fun hm => absurd (ok.hf _ (fsub _ hm)) (Nat.lt_irrefl _), fun v e => by rw [hd1] at e; cases e⟩
            · rw [List.mem_singleton.mp z]
              refine ⟨pa.1, pa.2.1, Nat.ne_of_gt (Nat.lt_trans hL' lt), fun hm => absurd (ok.hf a (fsub _ hm)) (Nat.not_lt.mpr (Nat.le_of_lt lt)), ok.cell⟩
        refine wpAny_passesOwn hp (wpAny_assign_Name (gstore I5p hN hj hy (show RelV (.ref u) (.ref u) from rfl) fun s6 I6 e6 => ?_))
        have q6 := (step i' xv' σ' H' hR'.w).2.2.2 st u Hg hL sm hu hu1
        refine wpAny_passesOwn hp (thn (hb.run (s1.setGen g gs').gens _ s6 _ Hg _ I6 e6 q6) fun f s7 ⟨q7, e7⟩ => ?_)
        have again : ∀ {σ7 : L2.St} {H7 : Hp}, Inv Xc (pins ++ [(sb.heap.objs.size, o1), (a, go)]) σ7 H7 s7 → W (i' + 1) (.ref u) σ7 H7 → ∃ m', m' < k + 1 ∧ ∃ i xv σ' H' gs, i + m' = Φ.L.length ∧ Φ.Ready i xv σ' H' s7 ∧ s7.gens[g]? = some gs ∧ gs.Goes (model Xc.prog Xc.w) Xc.A.in1 Φ.R Φ.Y (m' + 1) (.send .none) (s7.setGen g .running) := by
          intro σ7 H7 I7 w7
          have pn7 := I7.pin (sb.heap.objs.size, o1) (by simp)
          have pa7 := I7.pin (a, go) (by simp)
          have R7 : Φ.Ready (i' + 1) (.ref u) σ7 H7 s7 := ⟨I7.unpinned, w7, pn7.2.1, pa7.2.1, pa7.1, hlN.keep ok.cl (fun o eo => by have eo2 : o1 = o := Option.some.inj (ho1.symm.trans eo); rw [← eo2]; exact pn7.1), hlen, fun b hb => absurd hb List.not_mem_nil⟩
          refine ⟨k, Nat.lt_succ_self _, i' + 1, .ref u, σ7, H7, gs', by omega, R7, ?_, hk _ σ7 H7 (R7.gens (G := (s7.setGen g .running).gens) (allBare_setGen I7.bare rfl))⟩
          rw [e7]
          refine setGen_at ?_
          have q : (s1.setGen g gs').gens.size = s1.gens.size := setGen_size _ _ _
          have hsz' : g + 1 ≤ (s1.setGen g gs').gens.size := hsz
          omega
        cases f with
        | next => obtain ⟨σ7, H7, I7, w7⟩ := q7; exact again I7 w7
        | cont => obtain ⟨σ7, H7, I7, w7⟩ := q7; exact again I7 w7
        | brk => obtain ⟨σ7, H7, I7, w7⟩ := q7; exact ⟨σ7, H7, I7.unpinned, w7⟩
        | ret v => obtain ⟨x7, σ7, H7, I7, r7, w7⟩ := q7; exact ⟨x7, σ7, H7, I7.unpinned, r7, w7⟩
      · -- the end
        obtain ⟨i', xv', σ', H', hi', hR', hLi, σg, Hg, J, sm⟩ := hF
        have I5 : Inv Xc pins σ' Hg (s1.setGen g .finished) := gx_back hR'.I J ccl h0' hL' hp' (allBare_setGen J.bare rfl)
        have I6 : Inv Xc pins σ' Hg { s1.setGen g .finished with heap := h' } := I5.kept (t' := s1.toks) hkk
        exact wpAny_execs_nil ⟨σ', Hg, I6, (step i' xv' σ' H' hR'.w).2.2.1 hLi Hg sm⟩
end
/-! ### [elt for a, b in net.route(house, day, limit)]: the block's side -/
section
open PyProof.Rows GenW
/-- targets that leave the generators alone -/
structure PGg (X : Cx) (target : Expr) (t : TG) : Prop where
  run : ∀ (G : Array GenState) (pins : List (Addr × Obj)) (s : Shared) (σ : L2.St) (H : Hp) (v : V) (u : Value) (Q : L2.St → Hp → Prop), Inv X pins σ H s → s.gens = G → RelV v u → t v σ H Q →
    wpAny (model X.prog X.w) X.A (assign target X.env u) (fun _ s' => (∃ σ' H', Inv X pins σ' H' s' ∧ Q σ' H') ∧ s'.gens = G) X.xe s
theorem gg_tup2 {X : Cx} {i j : Nat} {x y : Str} {p1 p2 pos : Pos} {k} (hc : X.calm = true) (hN : X.N.Nodup) (hi : X.N[i]? = some x) (hj : X.N[j]? = some y) (hx : X.env.scope.names.lookup x = some .local) (hy : X.env.scope.names.lookup y = some .local) :
    PGg X (.Tuple [.Name x p1, .Name y p2] k pos) (gTup X.K 2 (gCons (gName i) (gCons (gName j) gNil))) := by
  refine ⟨fun G pins s σ H v u Q I eg r hw => ?_⟩
  obtain ⟨a, xs, e1, hq, hl, v1, r1, e2, v2, r2, e3, e4, hw⟩ := hw
  subst e1 e2 e3 e4
  cases r
  obtain ⟨its, rv, ht, hz⟩ := I.tuple hq
  refine assign_Tuple_tuple (I.ok.hd hc) ht (by rw [List.size_toArray, ← rv.length]; rfl) rfl fun h' hx' => ?_
  have I1 : Inv X pins σ H { s with heap := h' } := I.kept (t' := s.toks) fun b o e => hx' b o (Nat.ne_of_lt (Heap.lt_size e)) e
  cases rv with
  | cons ra rr =>
    cases rr with
    | cons rb rn =>
      cases rn
      refine assignInOrder_cons (wpAny_assign_Name (gstore I1 hN hi hx ra fun s2 I2 e2 => ?_))
      refine assignInOrder_cons (wpAny_assign_Name (gstore I2 hN hj hy rb fun s3 I3 e3 => ?_))
      exact assignInOrder_nil ⟨⟨_, _, I3, hw⟩, e3.trans (e2.trans eg)⟩
theorem ge_add {X : Cx} {a b : Expr} {t1 t2 : TE} {pos : Pos} (h1 : PEg X a t1) (h2 : PEg X b t2) : PEg X (.BinOp a .Add b pos) (tOp (rI0 fun i j => .int (i + j)) t1 t2) := by
  refine ⟨fun G pins s σ H Q I eg h => ?_⟩
  refine wpAny_BinOp (thn (h1.run G pins s σ H _ I eg h) fun v sa ⟨⟨x, Ha, Ia, ra, qa⟩, ega⟩ => thn (h2.run G pins sa σ Ha _ Ia ega qa) fun u sb ⟨⟨y, Hb, Ib, rb, qb⟩, egb⟩ => ?_)
  obtain ⟨m, n, rfl, rfl, q⟩ := qb
  obtain ⟨tk, rfl⟩ := ra
  obtain ⟨tk2, rfl⟩ := rb
  exact add_int ⟨⟨.int (m + n), Hb, Ib.tok _, ⟨_, rfl⟩, q⟩, egb⟩
/-- xs[i] of a list, the generators left alone -/
theorem ge_ixL {X : Cx} {a b : Expr} {t1 t2 : TE} {pos : Pos} (h1 : PEg X a t1) (h2 : PEg X b t2) (hs : PlainIx b) : PEg X (.Subscript a b pos) (tOp (rIxL X.K) t1 t2) := by
  refine ⟨fun G pins s σ H Q I eg h => ?_⟩
  refine Subscript_ (thn (h1.run G pins s σ H _ I eg h) fun v sa ⟨⟨x, Ha, Ia, ra, qa⟩, ega⟩ => thn (h2.run G pins sa σ Ha _ Ia ega qa) fun u sb ⟨⟨y, Hb, Ib, rb, qb⟩, egb⟩ => ?_)
  obtain ⟨p, xs, i, z, rfl, rfl, hq, he, q⟩ := qb
  cases ra
  obtain ⟨t, rfl⟩ := rb
  obtain ⟨its, r, pl, hz⟩ := Ib.list hq
  obtain ⟨j, h1, h2, h3, h4, h5⟩ := atI_get he
  obtain ⟨w, ew, rw'⟩ := r.get h2
  have hl := r.length
  have hn := line63
  have fin : EPg X G pins σ Q w sb := ⟨⟨z, Hb, Ib, rw', q⟩, egb⟩
  by_cases h0 : 0 ≤ i
  · have hj : i.toNat = j := by
      rw [seqIndex_of h0 h5] at h1
      exact Option.some.inj h1
    exact item_listR pl.isList h0 (by omega) (by rw [hj]; simpa using ew) fin (hs _ _)
  · have hj : (i + (its.toArray.size : Int)).toNat = j := by
      rw [seqIndex_neg (by omega) h4] at h1
      rw [List.size_toArray, ← hl]
      exact Option.some.inj h1
    exact subscriptTail_builtinR (x := w) pl.isList.typeIs slot_list_getitem.lookup
      (wpAny_getItem_list_neg (Q := fun r s' => r = w ∧ EPg X G pins σ Q r s') pl.isList (by omega) (by rw [List.size_toArray] <;> omega) (by omega) (by rw [hj]; simpa using ew) ⟨rfl, fin⟩) (hs _ _)
theorem app_okG {X : Cx} {pins : List (Addr × Obj)} {σ : L2.St} {H : Hp} {s : Shared} {E : Value → Shared → Prop} {D : Addr} {xs : List V} {y : V} {v : Value} {Q : Value → Shared → Prop} (I : Inv X pins σ H s) (hD : H D = some (.lst xs)) (hz : xs.length < sizeLine) (r : RelV y v)
    (h : ∀ s', Inv X pins σ (upd H D (.lst (xs ++ [y]))) s' → s'.gens = s.gens → Q .none s') : wpAny (model X.prog X.w) X.A (call (.builtin "list.append") [.ref D, v]) Q E s := by
  obtain ⟨hz', its, n, ri, e⟩ := I.hok D _ hD
  have hl := ri.length
  refine append_at (hsz := by rw [List.size_toArray]; omega) e fun h' sb ho' => ?_
  refine h { s with heap := h' } (I.write (t' := s.toks) (by rw [hD]; trivial) (.inl rfl) (fun b u hb q => (sb.2 b hb).trans q) ⟨_, ho'⟩ ⟨by rw [List.length_append]; exact hz, its ++ [v], n + 1, ri.append (.cons r .nil), ?_⟩) rfl
  rw [ho']
  simp
/-- back from the generator's side to a block's that began behind the generator's making (D: the block's new list) -/
theorem gx_backB {Xc : Cx} {N : List Str} {qual : Str} {scope : Scope} {f : Addr} {cd : Value} {n0 : Nat} {σb σg : L2.St} {H H1 : Hp} {s s1 : Shared} {pg : List (Addr × Obj)} {D : Addr} {acc : List V} {oL : Obj}
    (I : Inv Xc [] σb H s) (J : Inv (gx Xc N qual scope f cd n0 s H) pg σg H1 s1) (hpn : Xc.pn = []) (hso : Xc.stack = Xc.outer)
    (h0 : ∀ b o, Xc.s_0.heap.get? b = some o → b ∈ Xc.ex ∨ b < n0 ∨ b = D) (hD0 : Xc.H_0 D ≠ none) (hD : H1 D = some (.lst acc))
    (hC : ∀ x c, Xc.env.cells.lookup x = some c → c < n0) (hL : (Xc.env.locals, oL) ∈ pg) (hLs : s.heap.get? Xc.env.locals = some oL) {G : Array GenState} (hG : AllBare G) : Inv Xc [] σb H1 { s1 with gens := G } := by
  have u : Un (frs Xc.stack) [] H H1 (cutH s.heap n0) s1.heap := J.base
  rw [hso] at u
  have cut : ∀ {b : Addr} {o : Obj}, b < n0 → s.heap.get? b = some o → (cutH s.heap n0).get? b = some o := fun {b o} lt e => (cutH_get lt).trans e
  have old : ∀ {b : Addr} {o : Obj}, Xc.s_0.heap.get? b = some o → Xc.H_0 b = none → b ∉ Xc.ex → b < n0 := fun {b o} e n hx => by
    rcases h0 b o e with z | z | z
    · exact absurd z hx
    · exact z
    · rw [z] at n
      exact absurd n hD0
  have pL := J.pin (Xc.env.locals, oL) (List.mem_append_right _ hL)
  obtain ⟨m, ⟨oL', es, ep, hoL, rL⟩, hl⟩ := id I.loc
  have cellK : ∀ x c, Xc.env.cells.lookup x = some c → ∀ v, s.heap.IsCell c v → s1.heap.IsCell c v := fun x c e v ⟨o, ho, hd⟩ => by
    obtain ⟨sl, q⟩ := u.any (cut (hC x c e) ho) (I.freeC x c e) (by simp)
    exact ⟨_, q, hd⟩
  refine ⟨I.ok, J.os.trans I.os, hG, ⟨fun b o e n hb hx => ?_, fun b o e n hb hx => ?_, fun b o e n hx => ?_, fun b o e hx => ?_, fun b xs e => u.tups b xs (I.base.tups b xs e), fun b o v e => u.frzs b o v (I.base.frzs b o v e), fun b ps e => ?_⟩, ⟨m, ?_, fun i x v q1 q2 q3 => ?_⟩, fun x c e => ?_, pL.2.1, fun x c e => ?_, fun p q => ?_, J.hok, I.len⟩
  · exact u.keep b o (cut (old e n hx) (I.base.keep b o e n hb hx)) (I.base.free b o e n hx) hb (by simp)
  · obtain ⟨sl, e1⟩ := I.base.slot b o e n hb hx
    obtain ⟨sl2, e2⟩ := u.any (cut (old e n hx) e1) (I.base.free b o e n hx) (by simp)
    exact ⟨sl2, e2⟩
  · obtain ⟨o', e1⟩ := I.base.there b o e hx
    exact u.free b o' (cut (old e n hx) e1) (I.base.free b o e n hx) (by simp)
  · obtain ⟨o', e1⟩ := I.base.there b o e hx
    rcases h0 b o e with z | z | z
    · exact absurd z hx
    · exact u.there b o' (cut z e1) (by simp)
    · rw [z]
      obtain ⟨_, its, n, ri, e⟩ := J.hok D _ hD
      exact ⟨_, e⟩
  · obtain ⟨m1, e1⟩ := I.base.tbls b ps e
    obtain ⟨m2, e2⟩ := u.tbls b _ e1
    exact ⟨m1 ++ m2, by rw [e2, Array.append_assoc]⟩
  · obtain rfl : oL' = oL := Option.some.inj (hoL.symm.trans hLs)
    exact ⟨_, es, ep, pL.1, rL⟩
  · obtain ⟨z, r, lk⟩ := hl i x v q1 q2 q3
    refine ⟨z, r, ?_⟩
    rcases lk with k | ⟨k1, c, k2, k3⟩
    · exact .inl k
    · exact .inr ⟨k1, c, k2, cellK x c k2 _ k3⟩
  · obtain ⟨v, z⟩ := I.cell x c e
    exact ⟨v, cellK x c e v z⟩
  · obtain ⟨v, o, ho, hd⟩ := I.cell x c e
    exact u.free c o (cut (hC x c e) ho) (I.freeC x c e) (by simp)
  · rw [hpn] at q
    exact absurd q (by simp)
end
section
open PyProof.Rows GenW
def tLcR (C : Addr) (to : TE) (t : TA) (g : TG) (te : TE) (vs : List Nat) : TE := fun σ H Q => to σ H fun xv H1 => ∃ x dx fs, xv = .ref x ∧ H1 x = some (.ins C dx fs) ∧ fs.lookup ("route" : Str) = none ∧ t σ H1 fun us H2 =>
  ∃ (t : Addr) (p h hs dy lim : Nat) (os : List Od) (F : List Addr), us = [.int hs, .int dy, .int lim] ∧ NetAt C H2 x p h os t F ∧ NetOk p h os ∧ hs < h ∧ dy ≤ 1000000000000000000 ∧
  ∀ D, H2 D = none → ∃ W : Nat → V → Hp → Prop, W 0 .non (upd H2 D (.lst [])) ∧ ∀ i xv H, W i xv H → NetAt C H x p h os t F ∧ (∃ acc, H D = some (.lst acc)) ∧ (∀ j, i = j + 1 → ∃ st, (way p os lim (hs, dy))[j]? = some st ∧ StopAt H xv st) ∧
    ((way p os lim (hs, dy)).length ≤ i → ∀ H1, Same H H1 → Q (.ref D) H1) ∧
    ∀ st u H1, (way p os lim (hs, dy))[i]? = some st → Same H H1 → H u = none → H1 u = some (tupOf st) → g (.ref u) (wipe σ vs) H1 fun σ2 H2 => wipe σ2 vs = wipe σ vs ∧ te σ2 H2 fun y H4 => ∃ acc, H4 D = some (.lst acc) ∧ acc.length < sizeLine ∧ W (i + 1) (.ref u) (upd H4 D (.lst (acc ++ [y])))
theorem lcR_core {X : Cx} {pins : List (Addr × Obj)} {s : Shared} {σ : L2.St} {H : Hp} {Q : VK} {use : Option (Value → Sem Unit)} {Qf : Value → Shared → Prop} {pos' : Pos} {C fR fS : Addr} {fdR fdS : FuncData} {o e elt tg : Expr} {es : List Expr} {scope : Scope} {own : List (Str × Nat)} {to : TE} {t : TA} {g : TG} {te : TE} {apos cpos pos : Pos} {pl : Sem Bool}
    (hc : X.calm = true) (hN : X.N.Nodup) (hr : Room 6 X.A) (T : NetT X.K C) (FR : Fun X.K "route" "Net.route" s_Net_route fR fdR) (mR : Meth X.K C "route" fR) (bR : Binds X.K fdR P_Net_route [])
    (DL : Df X.prog X.w X.K X.mg X.base "check_letter" 4 P_check_letter (spLetter C)) (GS : FnOk X.prog X.w X.K X.mg X.base CX0 2 fS fdS P_Net_stop_after (spStop C)) (mS : Meth X.K C "stop_after" fS) (bS : Binds X.K fdS P_Net_stop_after [])
    (ho : PE X o to) (ha : PA X (e :: es) t) (ok : BlkOk X.N X.env.scope scope own) (noc : ∀ y ∈ scope.names, y.2 ≠ .cell)
    (hg : ∀ (s : Shared) (H : Hp) (C : Addr) (cl : List (Str × Addr)) (fp : List Addr), PGg (X.blk s H scope (compEnvC scope cl C X.env) fp) tg g)
    (he : ∀ (s : Shared) (H : Hp) (C : Addr) (cl : List (Str × Addr)) (fp : List Addr), PEg (X.blk s H scope (compEnvC scope cl C X.env) fp) elt te)
    (hst : starEach (e :: es) X.env = (false, eval e X.env) :: starEach es X.env) (hpl : (backTo cpos (starEach es X.env)).any (·.1) = false)
    (ht : eval (.Call (.Attribute o "route" apos) (e :: es) [] cpos) X.env = (do let ov ← eval o X.env; standAt apos.atName; let (fv, fst) ← holding [ov] (getMethod ov "route" pl); callWith cpos fv fst (backTo cpos (starEach (e :: es) X.env)) (backToKw cpos (keywordEach [] X.env))))
    (hs0 : ∀ z, foldedSetIterable (.Call (.Attribute o "route" apos) (e :: es) [] cpos) X.env z = pure z)
    (I : Inv X pins σ H s) (hyp : tLcR C to t g te (own.map (·.2)) σ H Q)
    (hRR : ∀ D C s' m H', Inv X pins σ H' s' → Q (.ref D) H' → s'.heap.Ns C m → FpOk X pins H' C → compPost (model X.prog X.w) X.A X.xe use Qf (.ref D) C (.ok .next) s') :
    wpAny (model X.prog X.w) X.A (comprehension (.ListComp elt [⟨tg, .Call (.Attribute o "route" apos) (e :: es) [] cpos, [], 0⟩] scope pos) scope X.env pos' (newList []) false (eval (.Call (.Attribute o "route" apos) (e :: es) [] cpos) X.env) use) Qf X.xe s := by
  have hfree : ∀ y ∈ scope.names, y.2 = .free → ∃ c, X.env.cells.lookup y.1 = some c := fun y hy e => by
    rcases ok.free y hy e with k | k
    · exact I.ok.has _ (.inl k)
    · exact I.ok.has _ (.inr k)
  refine wpAny_comprehension_free (use := use) rfl hs0 (closure_ok hfree) ok.kind (fun y hy e => by rw [ok.uniq y hy, e]) ?_
  refine PySem.W.methodCall_KW (pl := pl) (thn (ho.run pins s σ H _ I hyp) fun u0 sa ⟨xv, Ha, Ia, ra, x, dx, fs, ex, ex2, lk, q⟩ => ?_) ht
  subst ex
  obtain rfl : u0 = Value.ref x := ra
  refine getmeth_ok Ia ex2 T.cl mR lk ?_
  refine PySem.W.callWith_K (first := [.ref x]) (h₀ := X.base) I.ok.mod.kin mR.kp (thn (ha.run cpos pins sa σ Ha _ Ia q) fun us sb ⟨vs, Hb, Ib, rb, q2⟩ => ⟨Ib.kIn, ?_⟩) hst hpl
  obtain ⟨t0, p, h, hs, dy, lim, os, F, rfl, Nt, nok, hh, hd, qD⟩ := q2
  obtain ⟨oc, od, kV, doc, pm, an, cdv, ct, osl, rfl, lkR, hcd⟩ := FR.ex
  have hlu : (Value.ref x :: us).length = P_Net_route.length := by
    have := rb.length
    show us.length + 1 = 4
    rw [← this]
    rfl
  have hlu2 : (Value.ref x :: us ++ []).length = P_Net_route.length := by rw [List.append_nil]; exact hlu
  refine wpAny_call (codeAny_mono (gen_new (vs := [.ref x, .int hs, .int dy, .int lim]) lkR hcd gsc_route Ib hr (by simpa using bR sb (.ref x :: us) Ib.kIn hlu2) (.cons rfl rb) rfl) fun r sc hq => ?_)
  cases r with
  | error e => exact hq.elim
  | ok fl =>
    cases fl with
    | next => exact hq.elim
    | brk => exact hq.elim
    | cont => exact hq.elim
    | ret u =>
      obtain ⟨a, g', rfl, lt, hgen, hgs, hos, hbare, hkp, hloc, oN, hoN, hcN⟩ := hq
      obtain ⟨go, nm, qn, hgo, hgc, hgd, hgsl⟩ := id hgen
      have isg : ∀ {hx : Heap}, hx.get? a = some go → hx.IsGen a g' := fun e => ⟨go, nm, qn, e, hgc, hgd, hgsl⟩
      refine wpAny_pyIter_gen hgen ?_
      refine wpAny_newObj_type (newEnv_comp ?_) (by show 0 ≤ sizeLine; decide)
      have I2 : Inv X pins σ Hb sc := Ib.call' (ch := []) hos (Un.kept hkp) (Ib.hok.kept hkp) hbare (fun b z => by simp at z)
      generalize hn0 : sb.heap.objs.size = n0 at *
      generalize hD : sc.heap.objs.size = D
      have an : a < D := by rw [← hD]; exact Heap.lt_size hgo
      have nD : n0 < D := Nat.lt_trans lt an
      have hDn : Hb D = none := I2.hok.fresh (Nat.le_of_eq hD)
      obtain ⟨W, w0, step⟩ := qD D hDn
      -- the new list
      generalize hs3 : ({ sc with heap := sc.heap.push { cls := .type "list", data := .seq ([] : List Value).toArray } } : Shared) = s3
      have I3 : Inv X pins σ (upd Hb D (.lst [])) s3 := by
        rw [← hs3]
        refine I2.laid (t' := sc.toks) (fun b o e => Heap.get?_push_of_some _ e) (Nat.le_of_eq hD) ⟨Nat.zero_le _, [], 0, .nil, ?_⟩
        rw [← hD]
        exact Heap.get?_push_size _ rfl
      have h3 : s3.heap = sc.heap.push { cls := .type "list", data := .seq ([] : List Value).toArray } := by rw [← hs3]
      have z3 : s3.heap.objs.size = D + 1 := by rw [h3, Heap.size_push, hD]
      have k3 : ∀ b o, sc.heap.get? b = some o → s3.heap.get? b = some o := fun b o e => by rw [h3]; exact Heap.get?_push_of_some _ e
      have mfp : ∀ b, b ∈ List.range' n0 (D - n0) ↔ n0 ≤ b ∧ b < D := fun b => by
        rw [List.mem_range'_1]
        omega
      have f3 : ∀ b ∈ List.range' n0 (D - n0), FpOk X pins (upd Hb D (.lst [])) b ∧ b < s3.heap.objs.size := fun b hb => by
        obtain ⟨hb1, hb2⟩ := (mfp b).mp hb
        refine ⟨Ib.fpOk (by rw [hn0]; exact hb1) ?_, by rw [z3]; exact Nat.lt_succ_of_lt hb2⟩
        rw [upd_ne (Nat.ne_of_lt hb2)]
        exact Ib.hok.fresh (by rw [hn0]; exact hb1)
      generalize hfp : List.range' n0 (D - n0) = fp at f3 mfp
      have I4 := block_start I3 ok hN f3
      have pg := hg s3 (upd Hb D (.lst [])) s3.heap.objs.size (cellsFrom (s3.heap.objs.size + 1) scope.names (cloFrom X.env.cells scope.names [])) fp
      have pe := he s3 (upd Hb D (.lst [])) s3.heap.objs.size (cellsFrom (s3.heap.objs.size + 1) scope.names (cloFrom X.env.cells scope.names [])) fp
      show codeAny _ _ (.compStart (.ListComp elt [⟨tg, .Call (.Attribute o "route" apos) (e :: es) [] cpos, [], 0⟩] scope pos) 0 (.ref a) (.ref D) (compEnvC scope (cellsFrom (s3.heap.objs.size + 1) scope.names (cloFrom X.env.cells scope.names [])) s3.heap.objs.size X.env)) (compPost (model X.prog X.w) X.A X.xe use Qf (.ref D) s3.heap.objs.size) { s3 with heap := pushCells (s3.heap.push { cls := .type "dict", data := .dict #[] }) scope.names }
      have hcells : ∀ y c, (compEnvC scope (cellsFrom (s3.heap.objs.size + 1) scope.names (cloFrom X.env.cells scope.names [])) s3.heap.objs.size X.env).cells.lookup y = some c → c < n0 := fun y c e => by
        have e2 : (cellsFrom (s3.heap.objs.size + 1) scope.names (cloFrom X.env.cells scope.names [])).lookup y = some c := e
        rw [← Heap.size_push s3.heap { cls := .type "dict", data := .dict #[] }] at e2
        rcases cells_mem (PySem.mem_of_lookup e2) with hm | ⟨h1, _, _⟩
        · rcases cloFrom_mem hm with hm | ⟨h1, rfl⟩
          · cases hm
          · obtain ⟨c', hc'⟩ := hfree _ h1 rfl
            show (X.env.cells.lookup y).getD 0 < n0
            rw [hc']
            obtain ⟨v, z⟩ := Ib.cell _ _ hc'
            rw [← hn0]
            exact z.lt
        · exact absurd rfl (noc _ h1)
      generalize hce : compEnvC scope (cellsFrom (s3.heap.objs.size + 1) scope.names (cloFrom X.env.cells scope.names [])) s3.heap.objs.size X.env = ce at I4 pg pe hcells ⊢
      have cL : ce.locals = s3.heap.objs.size := by subst hce; rfl
      have H3D : (upd Hb D (.lst [])) D ≠ none := by rw [upd_same]; exact fun z => nomatch z
      have H3n : (upd Hb D (.lst [])) n0 = none := by
        rw [upd_ne (Nat.ne_of_lt nD)]
        exact Ib.hok.fresh (Nat.le_of_eq hn0)
      have H3a : (upd Hb D (.lst [])) a = none := by
        rw [upd_ne (Nat.ne_of_lt an)]
        exact Ib.hok.fresh (by rw [hn0]; exact Nat.le_of_lt lt)
      generalize hH3 : upd Hb D (.lst []) = H3 at I3 I4 pg pe w0 f3 H3D H3n H3a
      generalize hs4 : ({ s3 with heap := pushCells (s3.heap.push { cls := .type "dict", data := .dict #[] }) scope.names } : Shared) = s4 at I4 ⊢
      have k4 : ∀ b o, sc.heap.get? b = some o → s4.heap.get? b = some o := fun b o e => by rw [← hs4]; exact pushCells_keeps _ _ _ _ (Heap.get?_push_of_some _ (k3 b o e))
      have g4 : s4.gens = sc.gens := by rw [← hs4, ← hs3]
      have frlt : ∀ b ∈ frs X.stack, b < n0 := fun b hb => by
        obtain ⟨_, o2, ho2, _⟩ := Ib.stack.mem hb
        rw [← hn0]
        exact Heap.lt_size ho2
      generalize hvs : own.map (·.2) = vs at *
      let Xb : Cx := X.blk s3 H3 scope ce fp
      let Φ : GFix := routeΦ Xb [] fR cdv n0 a go x hs dy lim (way p os lim (hs, dy)) (fun i xv σ' H => σ' = wipe σ vs ∧ W i xv H) [ce.locals]
      have hok : Φ.Ok := { calm := hc, kind := gsc_route.kind, nc := route_nocell, cl := rfl, hbz := by show X.base.objs.size ≤ n0; rw [← hn0]; exact Nat.le_trans Ib.ok.bsz Ib.sz, hex := fun b hb => by
                             obtain rfl : b = ce.locals := List.mem_singleton.mp hb
                             rw [cL, z3]
                             exact ⟨fun z => by have z2 : D + 1 = n0 := z; omega, fun z => Nat.lt_asymm nD (Nat.lt_trans (Nat.lt_succ_self D) (frlt (D + 1) z))⟩,
                           hf := frlt, lt := lt, cell := fun v z => by have z2 : go.data = .cell v := z; rw [hgd] at z2; cases z2 }
      have hW : ∀ i xv σ' H, (σ' = wipe σ vs ∧ W i xv H) → NetAt C H x p h os t0 F ∧ ∀ j, i = j + 1 → ∃ st, (way p os lim (hs, dy))[j]? = some st ∧ StopAt H xv st := fun i xv σ' H hw => ⟨(step i xv H hw.2).1, (step i xv H hw.2).2.2.1⟩
      have body0 : Φ.Body (defBody s_Net_route) := route_body (Xc := Xb) T DL GS mS bS hr nok hh hd hok hW
      have pxOf : ∀ {σ' : L2.St} {H' : Hp} {s' : Shared}, Inv Xb [] σ' H' s' → ∀ b ∈ Φ.ex, H' b = none ∧ ∃ o, s'.heap.get? b = some o ∧ ∀ v, o.data ≠ .cell v := fun {σ' H' s'} I' b hb => by
        obtain rfl : b = ce.locals := List.mem_singleton.mp hb
        obtain ⟨m, ⟨o1, es1, ep1, ho1, hd1, _⟩, _⟩ := id I'.loc
        exact ⟨I'.free, o1, ho1, fun v z => by rw [hd1] at z; cases z⟩
      have R0 : Φ.Ready 0 .non (wipe σ vs) H3 s4 := ⟨I4, ⟨rfl, w0⟩, H3n, H3a, k4 _ _ hgo, hloc.keep rfl (fun o e => k4 _ _ e), rfl, pxOf I4⟩
      have go0 : (GenState.fresh (.func (defBody s_Net_route) Φ.env)).Goes (model X.prog X.w) X.A.in1 Φ.R Φ.Y (Φ.L.length + 1) (.send .none) (s4.setGen g' .running) :=
        ⟨rfl, body0 _ (wipe σ vs) H3 .non (R0.gens (G := (s4.setGen g' .running).gens) (allBare_setGen I4.bare rfl))⟩
      have fsE : Xb.fs = frs X.stack := rfl
      -- back to the block
      have back : ∀ {i : Nat} {xv : V} {σ' σg : L2.St} {H' Hg : Hp} {s0 s1 : Shared} {G : Array GenState}, Φ.Ready i xv σ' H' s0 → Inv (Φ.gx s0 H') (Φ.pg s0) σg Hg s1 → Same H' Hg → AllBare G → Inv Xb [] σ' Hg { s1 with gens := G } := by
        intro i xv σ' σg H' Hg s0 s1 G hR J sm hG
        obtain ⟨acc, hacc⟩ := (step i xv H' hR.w.2).2.1
        obtain ⟨m, ⟨oL, es1, ep1, hoL, hd1, _⟩, _⟩ := id hR.I.loc
        exact gx_backB (D := D) hR.I J rfl rfl (fun b o e => by
          have hb : b < D + 1 := by rw [← z3]; exact Heap.lt_size (show s3.heap.get? b = some o from e)
          by_cases c1 : b < n0
          · exact .inr (.inl c1)
          · by_cases c2 : b = D
            · exact .inr (.inr c2)
            · exact .inl ((mfp b).mpr ⟨Nat.not_lt.mp c1, Nat.lt_of_le_of_ne (Nat.le_of_lt_succ hb) c2⟩)) H3D (sm D _ hacc) hcells (List.mem_cons_of_mem _ (mem_pinsAt (List.mem_singleton.mpr rfl) hoL)) hoL hG
      have glt0 : g' < sc.gens.size := (Array.getElem?_eq_some_iff.mp hgs).1
      have loop : codeAny (model X.prog X.w) X.A (.compLoop (.ListComp elt [⟨tg, .Call (.Attribute o "route" apos) (e :: es) [] cpos, [], 0⟩] scope pos) 0 (.ref a) (.ref D) ce) (compPost (model X.prog X.w) X.A X.xe use Qf (.ref D) s3.heap.objs.size) s4 := by
        refine compLoop_any (fun m s' => ∃ i xv H' gs, i + m = Φ.L.length ∧ Φ.Ready i xv (wipe σ vs) H' s' ∧ s'.gens[g']? = some gs ∧ gs.Goes (model X.prog X.w) X.A.in1 Φ.R Φ.Y (m + 1) (.send .none) (s'.setGen g' .running)) ?_ Φ.L.length ⟨0, .non, H3, _, Nat.zero_add _, R0, by rw [g4]; exact hgs, go0⟩
        rintro m s5 ⟨i, xv, H5, gs, him, hR, hgs5, hgo5⟩
        have glt5 : g' < s5.gens.size := (Array.getElem?_eq_some_iff.mp hgs5).1
        refine wpAny_gsz (n := g' + 1) glt5 (next_genG (A := X.A) (F := Φ.F) (Er := fun _ _ => False) hr.hd hR.I.nolimit (by have := hr.dp; omega) (isg hR.ga) hgs5 hgo5 (fun v s1 gs' hb1 hY hsz => ?_) (fun s1 hF h' hkk _ => ?_) fun e s1 he => he.elim)
        · -- an item
          obtain ⟨i', xv', σ', H', him', hR', σg, Hg, u, st, J, rfl, hL, sm, hu, hu1, hlN, hlen, hk⟩ := hY
          have lti : i' < Φ.L.length := (List.getElem?_eq_some_iff.mp hL).1
          have him2 : i' + m = Φ.L.length := him'
          obtain ⟨k, rfl⟩ : ∃ k, m = k + 1 := ⟨m - 1, by omega⟩
          have pa := J.pin (a, go) (List.mem_append_right _ List.mem_cons_self)
          refine go_of (s := s1.setGen g' gs') pa.1 hgc hgd (by decide) ?_
          have hG : AllBare (s1.setGen g' gs').gens := allBare_setGen J.bare hb1
          have I5 : Inv Xb [] σ' Hg (s1.setGen g' gs') := back hR' J sm hG
          obtain ⟨eσ, hw5⟩ := hR'.w
          obtain ⟨mN, ⟨o1, es1, ep1, ho1, hd1, _⟩, _⟩ := id J.loc
          have hLn : ce.locals ≠ n0 := by rw [cL, z3]; exact fun z => Nat.lt_irrefl D (Nat.lt_trans (Nat.lt_succ_self D) (show D + 1 < D by rw [z]; exact nD))
          have hLa : ce.locals ≠ a := by rw [cL, z3]; exact fun z => Nat.lt_irrefl D (Nat.lt_trans (Nat.lt_succ_self D) (show D + 1 < D by rw [z]; exact an))
          have I5p : Inv Xb ([] ++ [(n0, o1), (a, go)]) σ' Hg (s1.setGen g' gs') := by
            refine I5.pins_of fun p0 hp0 => ?_
            rcases List.mem_cons.mp hp0 with z | z
            · rw [z]
              exact ⟨ho1, J.free, hLn.symm, fun hm => absurd (frlt _ hm) (Nat.lt_irrefl _), fun v e => by rw [hd1] at e; cases e⟩
            · rw [List.mem_singleton.mp z]
              exact ⟨pa.1, pa.2.1, hLa.symm, fun hm => absurd (frlt a hm) (Nat.not_lt.mpr (Nat.le_of_lt lt)), hok.cell⟩
          have q6 := (step i' xv' H' hw5).2.2.2.2 st u Hg hL sm hu hu1
          subst eσ
          refine thnF (pg.run (s1.setGen g' gs').gens _ _ _ Hg (.ref u) (.ref u) _ I5p rfl rfl q6) fun _ s6 ⟨⟨σ6, H6, I6, hw6, q7⟩, e6⟩ => ?_
          refine wpAny_tests_nil ?_
          rw [if_pos rfl]
          refine thnF (pe.run _ _ s6 σ6 H6 _ I6 e6 q7) fun z s7 ⟨⟨yv, H7, I7, r7, acc, hD7, hz7, w7⟩, e7⟩ => ?_
          refine app_okG (X := Xb) I7 hD7 hz7 r7 fun s8 I8 e8 => ?_
          have hl8 : (wipe σ vs).length = σ6.length := by rw [← hw6, wipe_length]
          have I9 : Inv Xb [] (wipe σ vs) (upd H7 D (.lst (acc ++ [yv]))) s8 := (I8.unpinned (pins := [])).weak hl8 fun j v e => by
            rw [← hw6] at e
            exact (wipe_some e).1
          have pn7 := I8.pin (n0, o1) (by simp)
          have pa7 := I8.pin (a, go) (by simp)
          have R7 : Φ.Ready (i' + 1) (.ref u) (wipe σ vs) (upd H7 D (.lst (acc ++ [yv]))) s8 :=
            ⟨I9, ⟨rfl, w7⟩, pn7.2.1, pa7.2.1, pa7.1, hlN.keep hok.cl (fun o eo => by have eo2 : o1 = o := Option.some.inj (ho1.symm.trans eo); rw [← eo2]; exact pn7.1), hlen, pxOf I9⟩
          refine ⟨k, Nat.lt_succ_self _, i' + 1, .ref u, _, gs', by omega, R7, ?_, hk _ _ _ (R7.gens (G := (s8.setGen g' .running).gens) (allBare_setGen I8.bare rfl))⟩
          rw [e8, e7]
          refine setGen_at ?_
          have q : (s1.setGen g' gs').gens.size = s1.gens.size := setGen_size _ _ _
          have hsz' : g' + 1 ≤ (s1.setGen g' gs').gens.size := hsz
          omega
        · -- the end
          obtain ⟨i', xv', σ', H', hi', hR', hLi, σg, Hg, J, sm⟩ := hF
          have I5 : Inv Xb [] σ' Hg (s1.setGen g' .finished) := back hR' J sm (allBare_setGen J.bare rfl)
          have I6 : Inv Xb [] σ' Hg { s1.setGen g' .finished with heap := h' } := I5.kept (t' := s1.toks) hkk
          have qq := (step i' xv' H' hR'.w.2).2.2.2.1 hLi Hg sm
          have I7 : Inv X pins σ Hg { s1.setGen g' .finished with heap := h' } := I3.call' (ch := fp) I6.os I6.base I6.hok I6.bare fun b hb => ⟨(f3 b hb).1.2.2.2.1, (f3 b hb).1.2.1, (f3 b hb).1.2.2.2.2.1, (f3 b hb).1.2.2.2.2.2⟩
          have nC : Hg s3.heap.objs.size = none := by
            have z : Hg ce.locals = none := I6.free
            rw [cL] at z
            exact z
          obtain ⟨m1, hn, _⟩ := I6.loc
          have hn : h'.Ns ce.locals m1 := hn
          rw [cL] at hn
          exact hRR D _ _ m1 Hg I7 qq hn (I3.fpOk (Nat.le_refl _) nC)
      exact codeAny_compStart_list loop (wpAny_pyIter_gen (isg (k4 _ _ hgo)) loop)
theorem pe_lcRoute {X : Cx} {C fR fS : Addr} {fdR fdS : FuncData} {o e elt tg : Expr} {es : List Expr} {scope : Scope} {own : List (Str × Nat)} {to : TE} {t : TA} {g : TG} {te : TE} {apos cpos pos : Pos} {pl : Sem Bool}
    (hc : X.calm = true) (hN : X.N.Nodup) (hr : Room 6 X.A) (T : NetT X.K C) (FR : Fun X.K "route" "Net.route" s_Net_route fR fdR) (mR : Meth X.K C "route" fR) (bR : Binds X.K fdR P_Net_route [])
    (DL : Df X.prog X.w X.K X.mg X.base "check_letter" 4 P_check_letter (spLetter C)) (GS : FnOk X.prog X.w X.K X.mg X.base CX0 2 fS fdS P_Net_stop_after (spStop C)) (mS : Meth X.K C "stop_after" fS) (bS : Binds X.K fdS P_Net_stop_after [])
    (ho : PE X o to) (ha : PA X (e :: es) t) (ok : BlkOk X.N X.env.scope scope own) (noc : ∀ y ∈ scope.names, y.2 ≠ .cell)
    (hg : ∀ (s : Shared) (H : Hp) (C : Addr) (cl : List (Str × Addr)) (fp : List Addr), PGg (X.blk s H scope (compEnvC scope cl C X.env) fp) tg g)
    (he : ∀ (s : Shared) (H : Hp) (C : Addr) (cl : List (Str × Addr)) (fp : List Addr), PEg (X.blk s H scope (compEnvC scope cl C X.env) fp) elt te)
    (hst : starEach (e :: es) X.env = (false, eval e X.env) :: starEach es X.env) (hpl : (backTo cpos (starEach es X.env)).any (·.1) = false)
    (ht : eval (.Call (.Attribute o "route" apos) (e :: es) [] cpos) X.env = (do let ov ← eval o X.env; standAt apos.atName; let (fv, fst) ← holding [ov] (getMethod ov "route" pl); callWith cpos fv fst (backTo cpos (starEach (e :: es) X.env)) (backToKw cpos (keywordEach [] X.env))))
    (hs0 : ∀ z, foldedSetIterable (.Call (.Attribute o "route" apos) (e :: es) [] cpos) X.env z = pure z) :
    PE X (.ListComp elt [⟨tg, .Call (.Attribute o "route" apos) (e :: es) [] cpos, [], 0⟩] scope pos) (tLcR C to t g te (own.map (·.2))) := by
  refine ⟨fun pins s σ H Q I hyp => ?_⟩
  rw [eval_ListComp]
  refine lcR_core hc hN hr T FR mR bR DL GS mS bS ho ha ok noc hg he hst hpl ht hs0 I hyp fun D C s' m H' I' q hn f => ⟨m, hn, fun h'' sb => ?_⟩
  obtain ⟨f0, f1, f2, f3, f4, f5⟩ := f
  exact ⟨.ref D, H', I'.turned (t' := s'.toks) (fun b o hb e => (sb.2 b hb).trans e) f0 f1 f3 f4 f5, rfl, q⟩
/-- name = [..] on one line, the name a local -/
theorem ps_setLcR {X : Cx} {i : Nat} {y : Str} {py spos : Pos} {C fR fS : Addr} {fdR fdS : FuncData} {o e elt tg : Expr} {es : List Expr} {scope : Scope} {own : List (Str × Nat)} {to : TE} {t : TA} {g : TG} {te : TE} {apos cpos pos : Pos} {pl : Sem Bool}
    (hc : X.calm = true) (hN : X.N.Nodup) (hy : X.N[i]? = some y) (hyl : X.env.scope.names.lookup y = some .local)
    (hsw : swapsWith (.ListComp elt [⟨tg, .Call (.Attribute o "route" apos) (e :: es) [] cpos, [], 0⟩] scope pos) (some (.Name y py)) spos.line X.env = pure true) (hr : Room 6 X.A) (T : NetT X.K C) (FR : Fun X.K "route" "Net.route" s_Net_route fR fdR) (mR : Meth X.K C "route" fR) (bR : Binds X.K fdR P_Net_route [])
    (DL : Df X.prog X.w X.K X.mg X.base "check_letter" 4 P_check_letter (spLetter C)) (GS : FnOk X.prog X.w X.K X.mg X.base CX0 2 fS fdS P_Net_stop_after (spStop C)) (mS : Meth X.K C "stop_after" fS) (bS : Binds X.K fdS P_Net_stop_after [])
    (ho : PE X o to) (ha : PA X (e :: es) t) (ok : BlkOk X.N X.env.scope scope own) (noc : ∀ y ∈ scope.names, y.2 ≠ .cell)
    (hg : ∀ (s : Shared) (H : Hp) (C : Addr) (cl : List (Str × Addr)) (fp : List Addr), PGg (X.blk s H scope (compEnvC scope cl C X.env) fp) tg g)
    (he : ∀ (s : Shared) (H : Hp) (C : Addr) (cl : List (Str × Addr)) (fp : List Addr), PEg (X.blk s H scope (compEnvC scope cl C X.env) fp) elt te)
    (hst : starEach (e :: es) X.env = (false, eval e X.env) :: starEach es X.env) (hpl : (backTo cpos (starEach es X.env)).any (·.1) = false)
    (ht : eval (.Call (.Attribute o "route" apos) (e :: es) [] cpos) X.env = (do let ov ← eval o X.env; standAt apos.atName; let (fv, fst) ← holding [ov] (getMethod ov "route" pl); callWith cpos fv fst (backTo cpos (starEach (e :: es) X.env)) (backToKw cpos (keywordEach [] X.env))))
    (hs0 : ∀ z, foldedSetIterable (.Call (.Attribute o "route" apos) (e :: es) [] cpos) X.env z = pure z) :
    PS X (.Assign [.Name y py] (.ListComp elt [⟨tg, .Call (.Attribute o "route" apos) (e :: es) [] cpos, [], 0⟩] scope pos) spos) (tAsg (tLcR C to t g te (own.map (·.2))) (gName i)) := by
  refine ⟨fun pins s σ H D I hyp => ?_⟩
  rw [exec_Assign_Name_used _ _ _ _ hsw]
  refine wpAny_bind (wpAny_standAt (wpAny_bind ?_))
  show wpAny _ X.A (do let _ ← comprehension (.ListComp elt [⟨tg, .Call (.Attribute o "route" apos) (e :: es) [] cpos, [], 0⟩] scope pos) scope X.env (firstIterPos [⟨tg, .Call (.Attribute o "route" apos) (e :: es) [] cpos, [], 0⟩] pos) (newList []) false (eval (.Call (.Attribute o "route" apos) (e :: es) [] cpos) X.env) (some (assign (.Name y py) X.env))) _ _ s
  have hyp : tLcR C to t g te (own.map (·.2)) σ H (fun x H1 => gName i x σ H1 D.nx) := hyp
  refine wpAny_bind (thn (lcR_core (Qf := fun _ s' => SP X pins D .next s') hc hN hr T FR mR bR DL GS mS bS ho ha ok noc hg he hst hpl ht hs0 I hyp fun L C s' m H' I' q hn f => ?_) fun _ s' hq => wpAny_pure (wpAny_pure hq))
  show wpAny _ _ (assign (.Name y py) X.env (.ref L)) _ _ _
  refine wpAny_assign_Name (store_ok2 (v := V.ref L) I' hN hy (.inl hyl) rfl (fun s2 I2 ⟨a, sb, ha⟩ => ?_) (.inr hyl))
  obtain ⟨f0, f1, f2, f3, f4, f5⟩ := f
  have haC : C ≠ a := by
    rcases ha with z | z
    · rw [z]; exact f1
    · exact fun e => f4 y a z e.symm
  refine ⟨m, hn.sameBut sb haC, fun h3 sb3 => ?_⟩
  exact ⟨_, H', I2.turned (t' := s2.toks) (fun b o hb e => (sb3.2 b hb).trans e) f0 f1 f3 f4 f5, q⟩
end
/-! ### a letter followed to its end -/
def plc (p : Nat) (s : Nat × Nat) : Nat × Nat := (s.1, s.2 % p)
/-- the stops up to the first that comes back to an earlier one's place, and that one's index -/
def fol (p : Nat) : List (Nat × Nat) → List (Nat × Nat) → List (Nat × Nat) × Option Nat
  | done, [] => (done, none)
  | done, s :: r => match done.findIdx? (fun t => decide (plc p t = plc p s)) with
    | some b => (done ++ [s], some b)
    | none => fol p (done ++ [s]) r
def folR (p h : Nat) (os : List Od) (st : Nat × Nat) : List (Nat × Nat) × Option Nat := fol p [] (way p os (h * p + 1) st)
def keyOf (p : Nat) (s : Nat × Nat) : List Key := [Sum.inl (s.1 : Int), Sum.inl ((s.2 % p : Nat) : Int)]
def kvsFrom (p : Nat) : Nat → List (Nat × Nat) → List (List Key × V)
  | _, [] => []
  | k, s :: r => (keyOf p s, .int (k : Nat)) :: kvsFrom p (k + 1) r
theorem keyOf_eq {p : Nat} {s t : Nat × Nat} : keyOf p t = keyOf p s ↔ plc p t = plc p s := by
  unfold keyOf plc
  constructor
  · intro h
    have h1 : (t.1 : Int) = s.1 := Sum.inl.inj (List.cons.inj h).1
    have h2 : ((t.2 % p : Nat) : Int) = ((s.2 % p : Nat) : Int) := Sum.inl.inj (List.cons.inj (List.cons.inj h).2).1
    exact Prod.ext (by show t.1 = s.1; omega) (by show t.2 % p = s.2 % p; omega)
  · intro h
    have h1 : t.1 = s.1 := (Prod.mk.inj h).1
    have h2 : t.2 % p = s.2 % p := (Prod.mk.inj h).2
    rw [h1, h2]
theorem kvs_val {p : Nat} {s : Nat × Nat} : ∀ (l : List (Nat × Nat)) (k : Nat), valV (kvsFrom p k l) (keyOf p s) = (l.findIdx? fun t => decide (plc p t = plc p s)).map fun i => V.int ((k + i : Nat) : Int)
  | [], _ => rfl
  | t :: r, k => by
    rw [List.findIdx?_cons]
    unfold kvsFrom valV
    rw [List.find?_cons]
    by_cases c : plc p t = plc p s
    · have c2 : keyOf p t = keyOf p s := keyOf_eq.mpr c
      simp only [c, c2, decide_true, if_true, Option.map_some]
      rfl
    · have c2 : ¬ keyOf p t = keyOf p s := fun z => c (keyOf_eq.mp z)
      simp only [c, c2, decide_false, Bool.false_eq_true, if_false]
      have ih := kvs_val (p := p) (s := s) r (k + 1)
      unfold valV at ih
      rw [ih, Option.map_map]
      congr 1
      funext i
      show V.int ((k + 1 + i : Nat) : Int) = V.int ((k + (i + 1) : Nat) : Int)
      rw [show k + 1 + i = k + (i + 1) by omega]
theorem kvs_len {p : Nat} : ∀ (l : List (Nat × Nat)) (k : Nat), (kvsFrom p k l).length = l.length
  | [], _ => rfl
  | _ :: r, k => by
    show (kvsFrom p (k + 1) r).length + 1 = r.length + 1
    rw [kvs_len r (k + 1)]
theorem kvs_snoc {p : Nat} {s : Nat × Nat} : ∀ (l : List (Nat × Nat)) (k : Nat), kvsFrom p k (l ++ [s]) = kvsFrom p k l ++ [(keyOf p s, .int ((k + l.length : Nat) : Int))]
  | [], _ => rfl
  | t :: r, k => by
    show (keyOf p t, V.int (k : Nat)) :: kvsFrom p (k + 1) (r ++ [s]) = _
    rw [kvs_snoc r (k + 1)]
    show _ = (keyOf p t, V.int (k : Nat)) :: (kvsFrom p (k + 1) r ++ [(keyOf p s, V.int ((k + (r.length + 1) : Nat) : Int))])
    rw [show k + 1 + r.length = k + (r.length + 1) by omega]
theorem putK_new {κ : Type} [DecidableEq κ] {kvs : List (κ × V)} {k : κ} {v : V} (h : valV kvs k = none) : putK kvs k v = kvs ++ [(k, v)] := by
  unfold putK
  have e : (kvs.any fun kv => decide (kv.1 = k)) = false := by
    unfold valV at h
    rw [Option.map_eq_none_iff, List.find?_eq_none] at h
    rw [List.any_eq_false]
    exact h
  rw [e, if_neg Bool.false_ne_true]
theorem pair_last {α β : Type} {F : α → β → Prop} {y : α} {s : β} : ∀ {xs : List α} {l : List β}, Paired F (xs ++ [y]) (l ++ [s]) → F y s
  | [], [], h => by cases h with | cons r _ => exact r
  | [], b :: l, h => by
    cases h with
    | cons _ t =>
      have := t.length
      simp at this
  | a :: xs, [], h => by
    cases h with
    | cons _ t =>
      have := t.length
      simp at this
  | a :: xs, b :: l, h => by
    cases h with
    | cons _ t => exact pair_last t
theorem pair_split {α β : Type} {F : α → β → Prop} {s : β} : ∀ {l : List β} {xs : List α}, Paired F xs (l ++ [s]) → ∃ ys v, xs = ys ++ [v] ∧ Paired F ys l ∧ F v s
  | [], _, h => by
    cases h with
    | cons r t =>
      cases t
      exact ⟨[], _, rfl, .nil, r⟩
  | b :: l, _, h => by
    cases h with
    | cons r t =>
      obtain ⟨ys, v, rfl, h1, h2⟩ := pair_split t
      exact ⟨_ :: ys, v, rfl, .cons r h1, h2⟩
/-- what follow gives: the stops' list, the index -/
def FolAt (H H' : Hp) (r : Addr) (res : List (Nat × Nat) × Option Nat) : Prop := ∃ sl vs, H r = none ∧ H' r = some (.tup [.ref sl, optV res.2]) ∧ H sl = none ∧ H' sl = some (.lst vs) ∧ Paired (StopAt H') vs res.1
abbrev s_follow : Stmt := top 23
abbrev N_follow : List Str := ["net", "house", "day", "stops", "seen", "limit", "stop", "place"]
abbrev P_follow : List Str := ["net", "house", "day"]
theorem sc_follow : FnScope N_follow P_follow (defScope s_follow) := ⟨rfl, rfl, rfl, by decide +kernel, rfl, by decide +kernel, by decide +kernel⟩
def spFollow (C : Addr) : Sp := fun vs H Q _ => ∃ (x t : Addr) (p h hs dy : Nat) (os : List Od) (F : List Addr), vs = [.ref x, .int hs, .int dy] ∧ NetAt C H x p h os t F ∧ NetOk p h os ∧ hs < h ∧ dy ≤ 1000000000000000000 ∧
  ∀ H' r, Same H H' → FolAt H H' r (folR p h os (hs, dy)) → Q (.ref r) H'
section
variable {P : Program} {w : World} {K : PySem.W.Frag} {mg : Str → Option Value} {base : Heap}
theorem ok_follow {f C fR fS : Addr} {fd fdR fdS : FuncData} (F : Fun K "follow" "follow" s_follow f fd) (B : Blt mg) (T : NetT K C) (FR : Fun K "route" "Net.route" s_Net_route fR fdR) (mR : Meth K C "route" fR) (bR : Binds K fdR P_Net_route [])
    (DL : Df P w K mg base "check_letter" 4 P_check_letter (spLetter C)) (GS : FnOk P w K mg base CX0 2 fS fdS P_Net_stop_after (spStop C)) (mS : Meth K C "stop_after" fS) (bS : Binds K fdS P_Net_stop_after []) : FnOk P w K mg base CX0 7 f fd P_follow (spFollow C) := by
  refine F.ok sc_follow (fun vs H Q E h => ?_) (fun cdv A outer s H vs Q E hr h => ?_)
  · obtain ⟨x, t, p, h, hs, dy, os, F, rfl, _⟩ := h
    rfl
  · obtain ⟨x, t, p, h, hs, dy, os, F, rfl, Nt, nok, hh, hd, q⟩ := h
    have hu : (A.deeper (PyProof.Rows.envOfC "follow" (defScope s_follow) s.heap.objs.size f cdv)).units + 1 < cLine := hu_of hr
    refine ⟨_, pss_cons (ps_set (i := 3) sc_follow.nd rfl (.inl rfl) (pe_lst pa_nil)) (pss_cons (ps_set (i := 4) sc_follow.nd rfl (.inl rfl) pe_dnewT)
      (pss_cons (ps_set (i := 5) sc_follow.nd rfl (.inl rfl) (pe_op op_add (pe_op op_mul (pe_fld (pv 0) rfl) (pe_fld (pv 0) rfl)) pe_int))
      (pss_cons (ps_for_route (j := 6) PassesOwn.never rfl rfl hr T FR mR bR DL GS mS bS (pv 0) (pa_cons (pv 1) (pa_cons (pv 2) (pa_cons (pv 5) pa_nil))) sc_follow.nd rfl rfl
        (gss_two (gs_set (i := 7) sc_follow.nd rfl rfl (ge_tup (ga_cons (ge_ixT (gv 6) ge_int (fun _ _ => rfl)) (ga_cons (ge_mod (ge_ixT (gv 6) ge_int (fun _ _ => rfl)) (ge_fld (gv 0) rfl)) ga_nil))))
        (gss_two (gs_append (gv 3) (gv 6))
        (gss_two (gs_if (gt_in hu (gv 7) (gv 4)) (gss_one (gs_ret (ge_tup (ga_cons (gv 3) (ga_cons (ge_get hu (gv 4) (gv 7) (fun _ _ => rfl)) ga_nil))))) gss_nil0)
        (gss_one (gs_put hu (gv 4) (gv 7) (ge_sub (ge_len rfl B.len PySem.boot_len (ga_cons (gv 3) ga_nil)) ge_int) rfl)))))
        rfl rfl rfl (by intro _; rfl))
      (pss_one (ps_ret (pe_tup (pa_cons (pv 3) (pa_cons pe_non pa_nil)))))))), ?_⟩
    obtain ⟨dx, fl, as, eF, hx, hrest⟩ := id Nt
    have p30 := nok.p30; have h10 := nok.h10; have p1 := nok.p1
    refine ⟨Nat.zero_le _, fun sl nsl => ?_⟩
    intro sd nsd
    have s1 := same_upd (o := HO.lst []) nsl
    have s2 := same_upd (o := HO.dT []) nsd
    have s12 := s1.trans s2
    have nsld : sl ≠ sd := ne_of_none (upd_same (H := H)) nsd
    have nsd0 : H sd = none := s1.free nsd
    have Nt2 := Nt.same s12
    obtain ⟨dx2, fl2, as2, _, hx2, _⟩ := id Nt2
    refine ⟨_, rfl, x, C, dx2, _, _, rfl, hx2, T.cl, T.nH, nf_ho, _, rfl, x, C, dx2, _, _, rfl, hx2, T.cl, T.nP, nf_pe, _, _, rfl, rfl, .inl ⟨by omega, by omega⟩, _, _, rfl, rfl, ?_⟩
    have el : (h : Int) * (p : Int) + 1 = ((h * p + 1 : Nat) : Int) := by rw [Int.natCast_add, Int.natCast_mul]; rfl
    refine ⟨_, rfl, x, dx2, _, rfl, hx2, nf_no (by decide +kernel) (by decide +kernel) (by decide +kernel) (by decide +kernel), _, rfl, _, rfl, _, rfl, ?_⟩
    have hlim : h * p + 1 ≤ 1000 := by
      have : h * p ≤ 10 * 30 := Nat.mul_le_mul h10 p30
      omega
    refine ⟨t, p, h, hs, dy, h * p + 1, os, F, ?_, Nt2, nok, hh, hd, ?_⟩
    · show [V.int hs, V.int dy, V.int ((h : Int) * (p : Int) + 1)] = _
      rw [el]
    have hwl := way_len p os (h * p + 1) (hs, dy)
    generalize hL : way p os (h * p + 1) (hs, dy) = L at hwl
    have nslF : sl ∉ F := Nt.new nsl
    have nsdF : sd ∉ F := Nt.new nsd0
    refine ⟨fun i xv σ' H' => ∃ vs x6 x7, i ≤ L.length ∧ σ' = [some (.ref x), some (.int hs), some (.int dy), some (.ref sl), some (.ref sd), some (.int ((h : Int) * (p : Int) + 1)), x6, x7] ∧ NetAt C H' x p h os t F ∧ H' sl = some (.lst vs) ∧ Paired (StopAt H') vs (L.take i) ∧
        H' sd = some (.dT (kvsFrom p 0 (L.take i))) ∧ fol p (L.take i) (L.drop i) = folR p h os (hs, dy) ∧ Same H H' ∧ ∀ j, i = j + 1 → ∃ st, L[j]? = some st ∧ StopAt H' xv st,
      ⟨[], none, none, Nat.zero_le _, rfl, Nt2, (upd_ne nsld).trans upd_same, .nil, upd_same, by unfold folR; rw [hL]; rfl, s12, fun j e => by cases e⟩, ?_⟩
    rintro i xv σ' H' ⟨vs, x6, x7, hi, rfl, N', hsl, hvs, hsd, hfol, sH, hlast⟩
    refine ⟨N', hlast, fun hLi H1 s3 => ?_, fun st u H1 hst s3 nu hu1 => ?_⟩
    · -- delivered
      have e1 : L.take i = L := List.take_of_length_le hLi
      have e2 : L.drop i = [] := List.drop_eq_nil_iff.mpr hLi
      rw [e1, e2] at hfol
      refine ⟨_, rfl, (by show 2 ≤ sizeLine; decide), fun r nr => ?_⟩
      have s4 := same_upd (o := HO.tup [.ref sl, .non]) nr
      have hres : folR p h os (hs, dy) = (L, none) := hfol.symm
      refine q _ r (sH.trans (s3.trans s4)) ?_
      rw [hres]
      rw [e1] at hvs
      exact ⟨sl, vs, sH.free (s3.free nr), upd_same, nsl, s4 _ _ (s3 _ _ hsl), StopsAt.keep (tk_of (s3.trans s4)) hvs⟩
    · have lt : i < L.length := (List.getElem?_eq_some_iff.mp hst).1
      have hdr : L.drop i = st :: L.drop (i + 1) := by
        rw [List.drop_eq_getElem_cons lt]
        congr 1
        exact (List.getElem?_eq_some_iff.mp hst).2
      have htk : L.take (i + 1) = L.take i ++ [st] := by
        rw [List.take_add_one, hst]
        rfl
      have hu1' : H1 u = some (.tup [.int st.1, .int st.2]) := hu1
      obtain ⟨dx3, fl3, as3, _, hx3, _⟩ := id (N'.same s3)
      -- place
      refine ⟨_, rfl, u, _, 0, _, rfl, rfl, SqT.of hu1', atI_nat (j := 0) rfl, _, rfl, u, _, 1, _, rfl, rfl, SqT.of hu1', atI_nat (j := 1) rfl, _, rfl, x, C, dx3, _, _, rfl, hx3, T.cl, T.nP, nf_pe, _, _, rfl, rfl, by omega, (by show 2 ≤ sizeLine; decide), fun pl npl => ?_⟩
      have s4 : Same H1 (upd H1 pl (.tup [.int st.1, .int ((st.2 : Int).fmod (p : Int))])) := same_upd npl
      have hpl : (upd H1 pl (.tup [.int st.1, .int ((st.2 : Int).fmod (p : Int))])) pl = some (.tup ((keyOf p st).map kV)) := by
        rw [upd_same, fmod_nat]
        rfl
      -- stops.append(stop)
      have hsl4 := s4 _ _ (s3 _ _ hsl)
      have hsd4 := s4 _ _ (s3 _ _ hsd)
      refine ⟨_, rfl, sl, _, rfl, hsl4, _, rfl, vs, hsl4, ?_, ?_⟩
      · have := hvs.length
        rw [List.length_take] at this
        exact small1000 (by omega)
      have nslpl : pl ≠ sl := (ne_of_none (s3 _ _ hsl) npl).symm
      have nsdpl : pl ≠ sd := (ne_of_none (s3 _ _ hsd) npl).symm
      have k5 : TupKeep (upd H1 pl (.tup [.int st.1, .int ((st.2 : Int).fmod (p : Int))])) (upd (upd H1 pl (.tup [.int st.1, .int ((st.2 : Int).fmod (p : Int))])) sl (.lst (vs ++ [.ref u]))) := TupKeep.lst hsl4
      have N5 := ((N'.same s3).same s4).but (d := sl) .upd k5 nslF
      have hsd5 : (upd (upd H1 pl (.tup [.int st.1, .int ((st.2 : Int).fmod (p : Int))])) sl (.lst (vs ++ [.ref u]))) sd = some (.dT (kvsFrom p 0 (L.take i))) := by rw [upd_ne nsld.symm]; exact hsd4
      have hpl5 := k5 _ _ hpl
      have hvs5 : Paired (StopAt (upd (upd H1 pl (.tup [.int st.1, .int ((st.2 : Int).fmod (p : Int))])) sl (.lst (vs ++ [.ref u])))) (vs ++ [.ref u]) (L.take (i + 1)) := by
        rw [htk]
        exact Paired.snoc (StopsAt.keep k5 (StopsAt.keep (tk_of (s3.trans s4)) hvs)) ⟨u, rfl, k5 _ _ (s4 _ _ hu1')⟩
      have sH5 : Same H (upd (upd H1 pl (.tup [.int st.1, .int ((st.2 : Int).fmod (p : Int))])) sl (.lst (vs ++ [.ref u]))) := fun b o e => by
        rw [upd_ne (ne_of_none e nsl)]
        exact s4 _ _ (s3 _ _ (sH _ _ e))
      have hsl5 : (upd (upd H1 pl (.tup [.int st.1, .int ((st.2 : Int).fmod (p : Int))])) sl (.lst (vs ++ [.ref u]))) sl = some (.lst (vs ++ [.ref u])) := upd_same
      generalize (upd (upd H1 pl (.tup [.int st.1, .int ((st.2 : Int).fmod (p : Int))])) sl (.lst (vs ++ [.ref u]))) = H5 at N5 hsd5 hpl5 hvs5 sH5 hsl5
      -- if place in seen
      have hval := kvs_val (p := p) (s := st) (L.take i) 0
      refine ⟨_, rfl, _, rfl, sd, _, keyOf p st, pl, rfl, rfl, hsd5, hpl5, ?_⟩
      rw [hdr] at hfol
      unfold fol at hfol
      cases hf : (L.take i).findIdx? (fun t => decide (plc p t = plc p st)) with
      | some b =>
        rw [hf] at hval
        simp only [hf] at hfol
        rw [hval]
        refine iteT ⟨_, rfl, _, rfl, _, rfl, sd, _, keyOf p st, pl, _, rfl, rfl, hsd5, hpl5, hval, (by show 2 ≤ sizeLine; decide), fun r nr => ?_⟩
        have s6 := same_upd (o := HO.tup [.ref sl, .int ((0 + b : Nat) : Int)]) nr
        refine q _ r (sH5.trans s6) ?_
        rw [← hfol]
        refine ⟨sl, _, sH5.free nr, ?_, nsl, s6 _ _ hsl5, ?_⟩
        · rw [upd_same]
          show some (HO.tup [V.ref sl, V.int ((0 + b : Nat) : Int)]) = _
          rw [Nat.zero_add]
          rfl
        · rw [← htk]
          exact StopsAt.keep (tk_of s6) hvs5
      | none =>
        rw [hf] at hval
        simp only [hf] at hfol
        rw [hval]
        -- seen[place] = len(stops) - 1
        refine iteF ⟨_, rfl, sl, _, rfl, SqL.of hsl5, _, _, rfl, rfl, _, rfl, _, rfl, sd, _, keyOf p st, pl, rfl, rfl, hsd5, hpl5, ?_, ?_⟩
        · rw [kvs_len, List.length_take]
          exact small1000 (by omega)
        have evl : (((vs ++ [V.ref u]).length : Nat) : Int) - 1 = ((0 + (L.take i).length : Nat) : Int) := by
          have e := hvs.length
          rw [List.length_append, List.length_singleton, e]
          omega
        have nsdsl : sd ≠ sl := nsld.symm
        have k6 : TupKeep H5 (upd H5 sd (.dT (putK (kvsFrom p 0 (L.take i)) (keyOf p st) (.int ((((vs ++ [V.ref u]).length : Nat) : Int) - 1))))) := fun b ys e => by
          rw [upd_ne (ne_of e hsd5 (by intro z; cases z))]
          exact e
        refine ⟨vs ++ [.ref u], _, _, lt, rfl, N5.but (d := sd) .upd k6 nsdF, ?_, StopsAt.keep k6 hvs5, ?_, ?_, fun b o e => ?_, fun j e => ?_⟩
        · rw [upd_ne nsld]
          exact hsl5
        · rw [upd_same, putK_new hval]
          show some (HO.dT (kvsFrom p 0 (L.take i) ++ [(keyOf p st, V.int ((((vs ++ [V.ref u]).length : Nat) : Int) - 1))])) = _
          rw [evl, htk, kvs_snoc]
        · rw [htk]
          exact hfol
        · rw [upd_ne (ne_of_none e nsd0)]
          exact sH5 _ _ e
        · obtain rfl : i = j := by omega
          refine ⟨st, hst, ?_⟩
          exact StopAt.keep k6 (pair_last (htk ▸ hvs5))
end
/-! ### cuts -/
theorem cut_from {xs : List V} {n : Nat} : cutV xs (some (n : Int)) none = xs.drop n := by
  unfold cutV
  rw [HT.sIx_nat, HT.sIx_none]
  by_cases c : n ≤ xs.length
  · rw [Nat.min_eq_left c, List.take_of_length_le (by rw [List.length_drop]; exact Nat.le_refl _)]
  · rw [Nat.min_eq_right (by omega), Nat.sub_self, List.take_zero, List.drop_eq_nil_iff.mpr (by omega)]
theorem cut_to {xs : List V} {n : Nat} : cutV xs none (some (n : Int)) = xs.take n := by
  unfold cutV
  rw [HT.sIx_none, HT.sIx_nat, List.drop_zero, Nat.sub_zero]
  by_cases c : n ≤ xs.length
  · rw [Nat.min_eq_left c]
  · rw [Nat.min_eq_right (by omega), List.take_of_length_le (Nat.le_refl _), List.take_of_length_le (by omega)]
/-! ### stops followed: plain mathematics -/
theorem fol_ne {p : Nat} : ∀ (l d : List (Nat × Nat)), (d ≠ [] ∨ l ≠ []) → (fol p d l).1 ≠ []
  | [], d, h => by
    rcases h with h | h
    · exact h
    · exact absurd rfl h
  | s :: r, d, _ => by
    unfold fol
    cases (d.findIdx? fun t => decide (plc p t = plc p s)) with
    | some b => simp
    | none => exact fol_ne r (d ++ [s]) (.inl (by simp))
theorem fol_len {p : Nat} : ∀ (l d : List (Nat × Nat)), (fol p d l).1.length ≤ d.length + l.length
  | [], d => by
    show d.length ≤ _
    omega
  | s :: r, d => by
    unfold fol
    cases (d.findIdx? fun t => decide (plc p t = plc p s)) with
    | some b =>
      show (d ++ [s]).length ≤ _
      rw [List.length_append, List.length_singleton, List.length_cons]
      omega
    | none =>
      have := fol_len (p := p) r (d ++ [s])
      rw [List.length_append, List.length_singleton] at this
      rw [List.length_cons]
      show (fol p (d ++ [s]) r).1.length ≤ _
      omega
theorem folR_ne {p h : Nat} {os : List Od} {st : Nat × Nat} : (folR p h os st).1 ≠ [] := by
  unfold folR
  refine fol_ne _ _ (.inr ?_)
  show way p os (h * p + 1) st ≠ []
  rw [show way p os (h * p + 1) st = rest p os (h * p + 1) (some st) from rfl, rest_succ]
  exact List.cons_ne_nil _ _
theorem folR_len {p h : Nat} {os : List Od} {st : Nat × Nat} : (folR p h os st).1.length ≤ h * p + 1 := by
  have h1 := fol_len (p := p) (way p os (h * p + 1) st) []
  have h2 := way_len p os (h * p + 1) st
  unfold folR
  simp only [List.length_nil, Nat.zero_add] at h1
  exact Nat.le_trans h1 h2
theorem small301 {p h : Nat} {os : List Od} (k : NetOk p h os) : h * p + 1 ≤ 301 := by
  have : h * p ≤ 10 * 30 := Nat.mul_le_mul k.h10 k.p30
  omega
theorem optV_isN {o : Option Nat} : decide (optV o = .non) = o.isNone := by cases o <;> rfl
theorem pair_drop {α β : Type} {F : α → β → Prop} {xs : List α} {l : List β} (h : Paired F xs l) : ∀ n, Paired F (xs.drop n) (l.drop n) := by
  induction h with
  | nil =>
    intro n
    rw [List.drop_nil, List.drop_nil]
    exact .nil
  | cons r t ih =>
    intro n
    cases n with
    | zero => exact .cons r t
    | succ n => exact ih n
theorem nodup_bound : ∀ (n : Nat) (l : List Nat), l.Nodup → (∀ x ∈ l, x < n) → l.length ≤ n
  | 0, [], _, _ => Nat.le_refl _
  | 0, x :: l, _, h => absurd (h x List.mem_cons_self) (Nat.not_lt_zero _)
  | n + 1, l, nd, h => by
    by_cases c : n ∈ l
    · have h1 : (l.erase n).length ≤ n := nodup_bound n (l.erase n) (nd.erase n) fun x hx => by
        have h2 := (List.Nodup.mem_erase_iff nd).mp hx
        have h3 := h x h2.2
        have h4 : x ≠ n := h2.1
        omega
      have h2 := List.length_erase_of_mem c
      omega
    · have h1 : l.length ≤ n := nodup_bound n l nd fun x hx => by
        have h3 := h x hx
        have h4 : x ≠ n := fun e => c (e ▸ hx)
        omega
      omega
/-- stops at different places are few -/
theorem places_bound {p h : Nat} {l : List (Nat × Nat)} (hp : 0 < p) (hh : ∀ s ∈ l, s.1 < h) (nd : (l.map (plc p)).Nodup) : l.length ≤ h * p := by
  have e : (l.map fun s => s.1 * p + s.2 % p).length = l.length := List.length_map _
  rw [← e]
  refine nodup_bound (h * p) _ ?_ ?_
  · have e2 : (l.map fun s => s.1 * p + s.2 % p) = (l.map (plc p)).map fun s => s.1 * p + s.2 := by
      rw [List.map_map]
      rfl
    rw [e2]
    have lt : ∀ s ∈ l.map (plc p), s.2 < p := fun s hs => by
      obtain ⟨t, _, rfl⟩ := List.mem_map.mp hs
      exact Nat.mod_lt _ hp
    generalize l.map (plc p) = ps at nd lt
    clear e e2 hh
    induction ps with
    | nil => exact List.nodup_nil
    | cons s r ih =>
      rw [List.nodup_cons] at nd
      rw [List.map_cons, List.nodup_cons]
      refine ⟨fun hm => ?_, ih nd.2 fun t ht => lt t (List.mem_cons_of_mem _ ht)⟩
      obtain ⟨t, ht, et⟩ := List.mem_map.mp hm
      have l1 := lt s List.mem_cons_self
      have l2 := lt t (List.mem_cons_of_mem _ ht)
      have q1 : t.1 = s.1 := by
        have a1 : (t.1 * p + t.2) / p = (s.1 * p + s.2) / p := by rw [et]
        rw [Nat.mul_comm t.1, Nat.mul_comm s.1, Nat.mul_add_div hp, Nat.mul_add_div hp, Nat.div_eq_of_lt l1, Nat.div_eq_of_lt l2] at a1
        omega
      have q2 : t.2 = s.2 := by
        rw [q1] at et
        omega
      exact nd.1 (by rw [show s = t from Prod.ext q1.symm q2.symm]; exact ht)
  · intro x hx
    obtain ⟨s, hs, rfl⟩ := List.mem_map.mp hx
    have h1 := hh s hs
    have h2 : s.2 % p < p := Nat.mod_lt _ hp
    calc s.1 * p + s.2 % p < s.1 * p + p := by omega
      _ = (s.1 + 1) * p := by rw [Nat.add_mul, Nat.one_mul]
      _ ≤ h * p := Nat.mul_le_mul_right _ h1
/-- how a way goes on behind its i-th stop -/
theorem way_next {p : Nat} {os : List Od} {n i : Nat} {st c : Nat × Nat} (hc : (way p os n st)[i]? = some c) (hi : i + 1 < n) : (way p os n st).drop (i + 1) = rest p os (n - (i + 1)) (hop p os c) := by
  have h := way_drop hc
  have e : n - i = (n - (i + 1)) + 1 := by omega
  rw [e, show way p os (n - (i + 1) + 1) c = rest p os (n - (i + 1) + 1) (some c) from rfl, rest_succ] at h
  have := congrArg (List.drop 1) h
  rw [List.drop_drop] at this
  exact this
/-- destination's answer -/
def destOf (res : List (Nat × Nat) × Option Nat) : Option (Nat × Nat) := match res.2 with
  | some _ => none
  | none => res.1.getLast?
def OptStop (H' : Hp) (v : V) : Option (Nat × Nat) → Prop
  | none => v = .non
  | some s => StopAt H' v s
/-! ### where a letter is: plain mathematics -/
/-- the i-th stop of a letter's way -/
def stp (p : Nat) (os : List Od) : Nat → Nat × Nat → Option (Nat × Nat)
  | 0, st => some st
  | n + 1, st => (stp p os n st).bind (hop p os)
theorem way_get {p : Nat} {os : List Od} {n : Nat} {st : Nat × Nat} : ∀ {i : Nat}, i < n → (way p os n st)[i]? = stp p os i st
  | 0, h => by
    obtain ⟨n, rfl⟩ : ∃ m, n = m + 1 := ⟨n - 1, by omega⟩
    rw [show way p os (n + 1) st = rest p os (n + 1) (some st) from rfl, rest_succ]
    rfl
  | i + 1, h => by
    have ih := way_get (p := p) (os := os) (n := n) (st := st) (i := i) (by omega)
    show _ = (stp p os i st).bind (hop p os)
    cases q : (way p os n st)[i]? with
    | none =>
      rw [← ih, q]
      rw [List.getElem?_eq_none_iff] at q
      exact List.getElem?_eq_none_iff.mpr (by omega)
    | some c =>
      rw [← ih, q]
      have e := way_next q h
      have e2 := congrArg (fun l => l[0]?) e
      simp only [List.getElem?_drop, Nat.add_zero] at e2
      rw [e2]
      obtain ⟨k, hk⟩ : ∃ k, n - (i + 1) = k + 1 := ⟨n - (i + 1) - 1, by omega⟩
      rw [hk]
      show (rest p os (k + 1) (hop p os c))[0]? = hop p os c
      cases hop p os c with
      | none => rfl
      | some s =>
        rw [rest_succ]
        rfl
theorem stp_add {p : Nat} {os : List Od} {i : Nat} {st : Nat × Nat} : ∀ {j : Nat}, stp p os (i + j) st = (stp p os i st).bind (stp p os j)
  | 0 => by
    show stp p os i st = _
    cases stp p os i st <;> rfl
  | j + 1 => by
    show (stp p os (i + j) st).bind (hop p os) = _
    rw [stp_add]
    cases stp p os i st <;> rfl
theorem hop_more {p h : Nat} {os : List Od} {c s : Nat × Nat} (k : NetOk p h os) (e : hop p os c = some s) : c.2 < s.2 := by
  unfold hop at e
  cases q : idx p os c.1 (c.2 : Int) with
  | none =>
    rw [q] at e
    cases e
  | some j =>
    simp only [q] at e
    have hj := idx_lt q
    rw [List.getElem?_eq_getElem hj] at e
    rw [← Option.some.inj e]
    have := (k.ok _ (List.getElem_mem hj)).e1
    show c.2 < c.2 + _
    omega
theorem stp_more {p h : Nat} {os : List Od} {i : Nat} {st a : Nat × Nat} (ok : NetOk p h os) (ha : stp p os i st = some a) : ∀ {k : Nat}, ∀ {b}, stp p os (i + (k + 1)) st = some b → a.2 < b.2
  | 0, b, hb => by
    have e : (stp p os i st).bind (hop p os) = some b := hb
    rw [ha] at e
    exact hop_more ok e
  | k + 1, b, hb => by
    have e : (stp p os (i + (k + 1)) st).bind (hop p os) = some b := hb
    cases q : stp p os (i + (k + 1)) st with
    | none =>
      rw [q] at e
      cases e
    | some c =>
      rw [q] at e
      have h1 := stp_more ok ha (k := k) q
      have h2 := hop_more ok e
      omega
/-- the letter's last stop up to the day x: it is c, the j-th -/
def LastAt (p : Nat) (os : List Od) (st : Nat × Nat) (x : Nat) (c : Nat × Nat) (j : Nat) : Prop :=
  stp p os j st = some c ∧ c.2 ≤ x ∧ ∀ s, hop p os c = some s → x < s.2
theorem LastAt.uniq {p h : Nat} {os : List Od} {st c c' : Nat × Nat} {x j j' : Nat} (ok : NetOk p h os) (a : LastAt p os st x c j) (b : LastAt p os st x c' j') : c = c' ∧ j = j' := by
  obtain ⟨a1, a2, a3⟩ := a
  obtain ⟨b1, b2, b3⟩ := b
  have key : ∀ {c c' : Nat × Nat} {j j' : Nat}, stp p os j st = some c → (∀ s, hop p os c = some s → x < s.2) → stp p os j' st = some c' → c'.2 ≤ x → j < j' → False := by
    intro c c' j j' h1 h2 h3 h4 lt
    obtain ⟨k, rfl⟩ : ∃ k, j' = (j + 1) + k := ⟨j' - (j + 1), by omega⟩
    have e0 : stp p os (j + 1) st = hop p os c := by
      show (stp p os j st).bind (hop p os) = _
      rw [h1]
      rfl
    cases q : hop p os c with
    | none =>
      rw [stp_add, e0, q] at h3
      cases h3
    | some s =>
      have h5 := h2 s q
      cases k with
      | zero =>
        rw [Nat.add_zero, e0, q] at h3
        rw [← Option.some.inj h3] at h4
        omega
      | succ k =>
        have h6 := stp_more ok (e0.trans q) h3
        omega
  by_cases e : j = j'
  · subst e
    exact ⟨Option.some.inj (a1.symm.trans b1), rfl⟩
  · rcases Nat.lt_or_gt_of_ne e with lt | lt
    · exact (key a1 a3 b1 b2 lt).elim
    · exact (key b1 b3 a1 a2 lt).elim
/-- later by D days, a multiple of the period -/
def shf (D : Nat) (s : Nat × Nat) : Nat × Nat := (s.1, s.2 + D)
theorem hop_shf {p : Nat} {os : List Od} {k : Nat} (s : Nat × Nat) : hop p os (shf (p * k) s) = (hop p os s).map (shf (p * k)) := by
  unfold hop shf
  show (match idx p os s.1 ((s.2 + p * k : Nat) : Int) with | none => none | some j => (os[j]?).map fun o : Od => (o.t, s.2 + p * k + o.e)) = _
  rw [idx_later]
  cases idx p os s.1 (s.2 : Int) with
  | none => rfl
  | some j =>
    show (os[j]?).map _ = ((os[j]?).map _).map _
    rw [Option.map_map]
    congr 1
    funext o
    show (o.t, s.2 + p * k + o.e) = (o.t, s.2 + o.e + p * k)
    rw [show s.2 + p * k + o.e = s.2 + o.e + p * k by omega]
theorem stp_shf {p : Nat} {os : List Od} {k : Nat} (s : Nat × Nat) : ∀ j, stp p os j (shf (p * k) s) = (stp p os j s).map (shf (p * k))
  | 0 => rfl
  | j + 1 => by
    show (stp p os j (shf (p * k) s)).bind (hop p os) = ((stp p os j s).bind (hop p os)).map _
    rw [stp_shf s j]
    cases stp p os j s with
    | none => rfl
    | some c => exact hop_shf c
/-- round after round -/
theorem stp_round {p : Nat} {os : List Od} {b N D k0 : Nat} {st t : Nat × Nat} (hD : D = p * k0) (h1 : stp p os b st = some t) (h2 : stp p os (b + N) st = some (shf D t)) : ∀ (r i : Nat), stp p os (b + i + N * r) st = (stp p os (b + i) st).map (shf (D * r))
  | 0, i => by
    rw [Nat.mul_zero, Nat.mul_zero, Nat.add_zero]
    cases stp p os (b + i) st <;> rfl
  | r + 1, i => by
    have one : ∀ j, stp p os (b + N + j) st = (stp p os (b + j) st).map (shf D) := by
      intro j
      rw [stp_add, h2]
      show stp p os j (shf D t) = _
      rw [stp_add (i := b), h1, hD, stp_shf]
      rfl
    have e : b + i + N * (r + 1) = b + N + (i + N * r) := by
      rw [Nat.mul_add, Nat.mul_one]
      omega
    rw [e, one, show b + (i + N * r) = b + i + N * r by omega, stp_round hD h1 h2 r i, Option.map_map]
    congr 1
    funext s
    show (s.1, s.2 + D * r + D) = (s.1, s.2 + D * (r + 1))
    rw [Nat.mul_add, Nat.mul_one, Nat.add_assoc]
/-- what fol says -/
theorem fol_spec {p : Nat} : ∀ (r d : List (Nat × Nat)), (d.map (plc p)).Nodup →
    (fol p d r = (d ++ r, none) ∧ ((d ++ r).map (plc p)).Nodup) ∨ ∃ m s b t r', d ++ r = m ++ s :: r' ∧ fol p d r = (m ++ [s], some b) ∧ m[b]? = some t ∧ plc p t = plc p s ∧ (m.map (plc p)).Nodup
  | [], d, nd => .inl ⟨by rw [List.append_nil]; rfl, by rw [List.append_nil]; exact nd⟩
  | s :: r, d, nd => by
    unfold fol
    cases q : d.findIdx? (fun t => decide (plc p t = plc p s)) with
    | some b =>
      obtain ⟨hb, hb2, _⟩ := List.findIdx?_eq_some_iff_getElem.mp q
      exact .inr ⟨d, s, b, d[b], r, rfl, rfl, List.getElem?_eq_getElem hb, of_decide_eq_true hb2, nd⟩
    | none =>
      have nd2 : ((d ++ [s]).map (plc p)).Nodup := by
        rw [List.map_append, List.nodup_append]
        refine ⟨nd, by simp, fun x hx y hy => ?_⟩
        rw [List.map_cons, List.map_nil, List.mem_singleton] at hy
        rw [hy]
        intro e
        obtain ⟨t, ht, et⟩ := List.mem_map.mp hx
        have := List.findIdx?_eq_none_iff.mp q t ht
        exact Bool.false_ne_true (this.symm.trans (decide_eq_true (et.trans e)))
      have ih := fol_spec r (d ++ [s]) nd2
      rw [List.append_assoc] at ih
      exact ih
/-- a letter that is delivered, or chases: by its stops -/
theorem folR_cases {p h : Nat} {os : List Od} {st : Nat × Nat} (ok : NetOk p h os) (hh : st.1 < h) :
    (∃ l, folR p h os st = (l, none) ∧ l ≠ [] ∧ (∀ i, l[i]? = stp p os i st) ∧ (l.map (plc p)).Nodup) ∨
    (∃ m s b t k, folR p h os st = (m ++ [s], some b) ∧ (∀ i, i ≤ m.length → (m ++ [s])[i]? = stp p os i st) ∧ m[b]? = some t ∧ s = shf (p * k) t ∧ 0 < p * k ∧ (m.map (plc p)).Nodup) := by
  have hp : 0 < p := ok.p1
  have hlen := way_len p os (h * p + 1) st
  have hget : ∀ {i}, i < h * p + 1 → (way p os (h * p + 1) st)[i]? = stp p os i st := fun hi => way_get hi
  have hho := way_house (n := h * p + 1) ok hh
  have hne : way p os (h * p + 1) st ≠ [] := by
    rw [show way p os (h * p + 1) st = rest p os (h * p + 1) (some st) from rfl, rest_succ]
    exact List.cons_ne_nil _ _
  unfold folR
  generalize way p os (h * p + 1) st = L at hlen hget hho hne
  rcases fol_spec (p := p) L [] List.nodup_nil with ⟨e, nd⟩ | ⟨m, s, b, t, r', e1, e2, e3, e4, nd⟩
  · rw [List.nil_append] at e nd
    refine .inl ⟨L, e, hne, fun i => ?_, nd⟩
    have hb := places_bound hp hho nd
    by_cases c : i < h * p + 1
    · exact hget c
    · have e1 : stp p os L.length st = none := by
        rw [← hget (by omega)]
        exact List.getElem?_eq_none_iff.mpr (Nat.le_refl _)
      have e2 : i = L.length + (i - L.length) := by omega
      rw [e2, stp_add, e1]
      exact List.getElem?_eq_none_iff.mpr (by omega)
  · rw [List.nil_append] at e1
    have hml : m.length < L.length := by
      rw [e1, List.length_append, List.length_cons]
      omega
    have hg : ∀ i, i ≤ m.length → (m ++ [s])[i]? = stp p os i st := fun i hi => by
      rw [← hget (by omega), e1]
      by_cases c : i < m.length
      · rw [List.getElem?_append_left c, List.getElem?_append_left c]
      · obtain rfl : i = m.length := by omega
        rw [List.getElem?_append_right (Nat.le_refl _), List.getElem?_append_right (Nat.le_refl _), Nat.sub_self]
        rfl
    have hbl : b < m.length := (List.getElem?_eq_some_iff.mp e3).1
    have g1 : stp p os b st = some t := by
      rw [← hg b (by omega), List.getElem?_append_left hbl]
      exact e3
    have g2 : stp p os (b + (m.length - b - 1 + 1)) st = some s := by
      rw [show b + (m.length - b - 1 + 1) = m.length by omega, ← hg _ (Nat.le_refl _), List.getElem?_append_right (Nat.le_refl _), Nat.sub_self]
      rfl
    have lt := stp_more (b := s) ok g1 g2
    have h1 : t.1 = s.1 := (Prod.mk.inj e4).1
    have h2 : t.2 % p = s.2 % p := (Prod.mk.inj e4).2
    have hk : s.2 = t.2 + p * (s.2 / p - t.2 / p) := by
      have a1 := Nat.div_add_mod s.2 p
      have a2 := Nat.div_add_mod t.2 p
      have a3 : t.2 / p ≤ s.2 / p := Nat.div_le_div_right (Nat.le_of_lt lt)
      rw [Nat.mul_sub]
      have a4 : p * (t.2 / p) ≤ p * (s.2 / p) := Nat.mul_le_mul_left _ a3
      omega
    refine .inr ⟨m, s, b, t, s.2 / p - t.2 / p, e2, hg, e3, ?_, by omega, nd⟩
    exact Prod.ext h1.symm hk
/-- of an increasing list, those up to a day are its beginning -/
theorem upto {sk x : Nat} : ∀ {l : List (Nat × Nat)}, l.Pairwise (fun a b => a.2 < b.2) → l.filter (fun s => decide (s.2 + sk ≤ x)) = l.take (l.filter fun s => decide (s.2 + sk ≤ x)).length ∧ ∀ s ∈ l.drop (l.filter fun s => decide (s.2 + sk ≤ x)).length, x < s.2 + sk
  | [], _ => ⟨rfl, fun s h => by cases h⟩
  | s :: r, hp => by
    rw [List.pairwise_cons] at hp
    obtain ⟨h1, h2⟩ := upto (sk := sk) (x := x) hp.2
    by_cases c : s.2 + sk ≤ x
    · have e : (s :: r).filter (fun s => decide (s.2 + sk ≤ x)) = s :: r.filter (fun s => decide (s.2 + sk ≤ x)) := List.filter_cons_of_pos (p := fun s : Nat × Nat => decide (s.2 + sk ≤ x)) (decide_eq_true c)
      rw [e, List.length_cons, List.take_succ_cons, List.drop_succ_cons]
      refine ⟨?_, h2⟩
      rw [← h1]
    · have hn : ∀ t ∈ s :: r, x < t.2 + sk := fun t ht => by
        rcases List.mem_cons.mp ht with e | e
        · rw [e]; omega
        · have := hp.1 t e
          omega
      have e0 : (s :: r).filter (fun s => decide (s.2 + sk ≤ x)) = [] := List.filter_eq_nil_iff.mpr fun t ht z => by
        have := hn t ht
        have := of_decide_eq_true z
        omega
      rw [e0]
      exact ⟨rfl, fun t ht => hn t ht⟩
theorem stp_pair {p h : Nat} {os : List Od} {st : Nat × Nat} {l : List (Nat × Nat)} (ok : NetOk p h os) (hl : ∀ i, i < l.length → l[i]? = stp p os i st) : l.Pairwise fun a b => a.2 < b.2 := by
  rw [List.pairwise_iff_getElem]
  intro i j hi hj lt
  have e1 := hl i hi
  have e2 := hl j hj
  rw [List.getElem?_eq_getElem hi] at e1
  rw [List.getElem?_eq_getElem hj] at e2
  obtain ⟨k, rfl⟩ : ∃ k, j = i + (k + 1) := ⟨j - i - 1, by omega⟩
  exact stp_more (b := l[i + (k + 1)]) ok e1.symm e2.symm
def cnt (l : List (Nat × Nat)) (x : Nat) : Nat := (l.filter fun s => decide (s.2 ≤ x)).length
/-- days and hops that a chasing letter has behind it in whole rounds, up to the day x -/
def skips (res : List (Nat × Nat) × Option Nat) (x : Nat) : Nat × Nat := match res.2 with
  | none => (0, 0)
  | some b => match res.1[b]?, res.1.getLast? with
    | some t, some s => if t.2 ≤ x then ((x - t.2) / (s.2 - t.2) * (s.2 - t.2), (x - t.2) / (s.2 - t.2) * (res.1.length - 1 - b)) else (0, 0)
    | _, _ => (0, 0)
def cntS (l : List (Nat × Nat)) (sk x : Nat) : Nat := (l.filter fun s => decide (s.2 + sk ≤ x)).length
theorem cntS_spec {p h : Nat} {os : List Od} {st : Nat × Nat} {l : List (Nat × Nat)} {sk x : Nat} (ok : NetOk p h os) (hl : ∀ i, i < l.length → l[i]? = stp p os i st) :
    cntS l sk x ≤ l.length ∧ (∀ i s, i < cntS l sk x → l[i]? = some s → s.2 + sk ≤ x) ∧ ∀ i s, cntS l sk x ≤ i → l[i]? = some s → x < s.2 + sk := by
  obtain ⟨h1, h2⟩ := upto (sk := sk) (x := x) (stp_pair ok hl)
  have hc : cntS l sk x ≤ l.length := List.length_filter_le _ _
  refine ⟨hc, fun i s hi e => ?_, fun i s hi e => ?_⟩
  · have m : s ∈ l.filter fun s => decide (s.2 + sk ≤ x) := by
      rw [h1]
      refine List.mem_of_getElem? (i := i) ?_
      show (l.take (cntS l sk x))[i]? = some s
      rw [List.getElem?_take_of_lt hi]
      exact e
    exact of_decide_eq_true (List.mem_filter.mp m).2
  · refine h2 s (List.mem_of_getElem? (i := i - cntS l sk x) ?_)
    show (l.drop (cntS l sk x))[i - cntS l sk x]? = some s
    rw [List.getElem?_drop, show cntS l sk x + (i - cntS l sk x) = i by omega]
    exact e
/-- the last stop, as it is computed from what follow says -/
theorem last_of {p h : Nat} {os : List Od} {st : Nat × Nat} {x : Nat} (ok : NetOk p h os) (hh : st.1 < h) (hx : st.2 ≤ x) :
    ∃ c s, cntS (folR p h os st).1 (skips (folR p h os st) x).1 x = c + 1 ∧ (folR p h os st).1[c]? = some s ∧ LastAt p os st x (shf (skips (folR p h os st) x).1 s) (c + (skips (folR p h os st) x).2) ∧
      ((folR p h os st).2.isSome = true → c + 1 < (folR p h os st).1.length) := by
  rcases folR_cases ok hh with ⟨l, e, hne, hl, _⟩ | ⟨m, s, b, t, k, e, hl, hb, hs, hk, _⟩
  · rw [e]
    show ∃ c s, cntS l 0 x = c + 1 ∧ l[c]? = some s ∧ LastAt p os st x (shf 0 s) (c + 0) ∧ (Option.isSome (none : Option Nat) = true → c + 1 < l.length)
    obtain ⟨c1, c2, c3⟩ := cntS_spec (sk := 0) (x := x) ok fun i _ => hl i
    have h0 : l[0]? = some st := hl 0
    have pos : 0 < cntS l 0 x := by
      refine Nat.pos_of_ne_zero fun z => ?_
      have := c3 0 st (by omega) h0
      omega
    obtain ⟨c, hc⟩ : ∃ c, cntS l 0 x = c + 1 := ⟨cntS l 0 x - 1, by omega⟩
    have hcl : c < l.length := by omega
    have hc' := List.getElem?_eq_getElem hcl
    refine ⟨c, l[c], hc, hc', ⟨?_, c2 c _ (by omega) hc', fun s hs => ?_⟩, fun z => by cases z⟩
    · rw [Nat.add_zero, ← hl c]
      exact hc'
    · have e1 : l[c + 1]? = some s := by
        rw [hl (c + 1)]
        show (stp p os c st).bind (hop p os) = _
        rw [← hl c, hc']
        exact hs
      have := c3 (c + 1) s (by omega) e1
      omega
  · rw [e]
    have hbl : b < m.length := (List.getElem?_eq_some_iff.mp hb).1
    have hl' : ∀ i, i < (m ++ [s]).length → (m ++ [s])[i]? = stp p os i st := fun i hi => hl i (by rw [List.length_append, List.length_singleton] at hi; omega)
    have g1 : (m ++ [s])[b]? = some t := by rw [List.getElem?_append_left hbl]; exact hb
    have g2 : (m ++ [s])[m.length]? = some s := by
      rw [List.getElem?_append_right (Nat.le_refl _), Nat.sub_self]
      rfl
    have w1 : stp p os b st = some t := by rw [← hl b (by omega)]; exact g1
    have w2 : stp p os (b + (m.length - b)) st = some (shf (p * k) t) := by
      rw [show b + (m.length - b) = m.length by omega, ← hl _ (Nat.le_refl _), ← hs]
      exact g2
    have hD : s.2 - t.2 = p * k := by
      rw [hs]
      show t.2 + p * k - t.2 = _
      omega
    have esk : skips (m ++ [s], some b) x = if t.2 ≤ x then ((x - t.2) / (p * k) * (p * k), (x - t.2) / (p * k) * (m.length - b)) else (0, 0) := by
      unfold skips
      simp only [g1, List.getLast?_concat, hD]
      rw [List.length_append, List.length_singleton, Nat.add_sub_cancel]
    rw [esk]
    by_cases c : t.2 ≤ x
    · rw [if_pos c]
      generalize hr : (x - t.2) / (p * k) = r
      have q1 := Nat.div_add_mod (x - t.2) (p * k)
      have q2 := Nat.mod_lt (x - t.2) hk
      rw [hr] at q1
      have q3 : p * k * r = r * (p * k) := Nat.mul_comm _ _
      show ∃ c z, cntS (m ++ [s]) (r * (p * k)) x = c + 1 ∧ (m ++ [s])[c]? = some z ∧ LastAt p os st x (shf (r * (p * k)) z) (c + r * (m.length - b)) ∧ (Option.isSome (some b) = true → c + 1 < (m ++ [s]).length)
      obtain ⟨c1, c2, c3⟩ := cntS_spec (sk := r * (p * k)) (x := x) ok hl'
      have lo : b < cntS (m ++ [s]) (r * (p * k)) x := by
        refine Nat.lt_of_not_le fun z => ?_
        have := c3 b t z g1
        omega
      have hi : cntS (m ++ [s]) (r * (p * k)) x ≤ m.length := by
        refine Nat.le_of_not_lt fun z => ?_
        have := c2 m.length s z g2
        have e0 : s.2 = t.2 + p * k := by rw [hs]; rfl
        omega
      obtain ⟨c, hc⟩ : ∃ c, cntS (m ++ [s]) (r * (p * k)) x = c + 1 := ⟨cntS (m ++ [s]) (r * (p * k)) x - 1, by omega⟩
      have hcl : c < (m ++ [s]).length := by rw [List.length_append, List.length_singleton]; omega
      have hc' := List.getElem?_eq_getElem hcl
      have round := stp_round (D := p * k) (k0 := k) rfl w1 w2 r
      have sc : stp p os (c + r * (m.length - b)) st = some (shf (r * (p * k)) ((m ++ [s])[c])) := by
        have e1 := round (c - b)
        rw [show b + (c - b) = c by omega, Nat.mul_comm (m.length - b) r, ← hl c (by omega), hc', Nat.mul_comm (p * k) r] at e1
        exact e1
      refine ⟨c, (m ++ [s])[c], hc, hc', ⟨sc, c2 c _ (by omega) hc', fun z hz => ?_⟩, fun _ => by rw [List.length_append, List.length_singleton]; omega⟩
      have hcl2 : c + 1 < (m ++ [s]).length := by rw [List.length_append, List.length_singleton]; omega
      have hc2' := List.getElem?_eq_getElem hcl2
      have e2 := round (c + 1 - b)
      rw [show b + (c + 1 - b) = c + 1 by omega, Nat.mul_comm (m.length - b) r, ← hl (c + 1) (by omega), hc2', Nat.mul_comm (p * k) r] at e2
      have e3 : stp p os (c + 1 + r * (m.length - b)) st = some z := by
        rw [show c + 1 + r * (m.length - b) = (c + r * (m.length - b)) + 1 by omega]
        show (stp p os (c + r * (m.length - b)) st).bind (hop p os) = _
        rw [sc]
        exact hz
      rw [e3] at e2
      rw [Option.some.inj e2]
      exact c3 (c + 1) _ (by omega) hc2'
    · rw [if_neg c]
      show ∃ c z, cntS (m ++ [s]) 0 x = c + 1 ∧ (m ++ [s])[c]? = some z ∧ LastAt p os st x (shf 0 z) (c + 0) ∧ (Option.isSome (some b) = true → c + 1 < (m ++ [s]).length)
      obtain ⟨c1, c2, c3⟩ := cntS_spec (sk := 0) (x := x) ok hl'
      have h0 : (m ++ [s])[0]? = some st := hl 0 (Nat.zero_le _)
      have pos : 0 < cntS (m ++ [s]) 0 x := by
        refine Nat.pos_of_ne_zero fun z => ?_
        have := c3 0 st (by omega) h0
        omega
      have hi : cntS (m ++ [s]) 0 x ≤ b := by
        refine Nat.le_of_not_lt fun z => ?_
        have := c2 b t z g1
        omega
      obtain ⟨c, hc⟩ : ∃ c, cntS (m ++ [s]) 0 x = c + 1 := ⟨cntS (m ++ [s]) 0 x - 1, by omega⟩
      have hcl : c < (m ++ [s]).length := by rw [List.length_append, List.length_singleton]; omega
      have hc' := List.getElem?_eq_getElem hcl
      have sc : stp p os c st = some ((m ++ [s])[c]) := by
        rw [← hl c (by omega)]
        exact hc'
      refine ⟨c, (m ++ [s])[c], hc, hc', ⟨sc, c2 c _ (by omega) hc', fun z hz => ?_⟩, fun _ => by rw [List.length_append, List.length_singleton]; omega⟩
      have e3 : (m ++ [s])[c + 1]? = some z := by
        rw [hl (c + 1) (by omega)]
        show (stp p os c st).bind (hop p os) = _
        rw [sc]
        exact hz
      have := c3 (c + 1) z (by omega) e3
      omega
/-! ### stops as data -/
theorem fol_first {p : Nat} {s : Nat × Nat} {r : List (Nat × Nat)} : fol p [] (s :: r) = fol p [s] r := by simp [fol]
def plD (s : Nat × Nat) : PyData := .tuple [.int s.1, .int s.2]
theorem plD_shaped (s : Nat × Nat) : PySem.SeqAt.shaped (plD s) = true := by
  show ((plD s).canLay0 && decide ((plD s).depth ≤ 64)) = true
  rw [Bool.and_eq_true]
  refine ⟨by simp [plD, PyData.canLay0, PyData.canLayAll0], decide_eq_true ?_⟩
  have e : (plD s).depth = 1 := by simp [plD, PyData.depth, PyData.depthAll]
  omega
theorem plDs_lay : ∀ l : List (Nat × Nat), PyData.canLayAll0 (l.map plD) = true
  | [] => by simp [PyData.canLayAll0]
  | s :: l => by
    have h : (plD s).canLay0 = true := by simp [plD, PyData.canLay0, PyData.canLayAll0]
    simp [PyData.canLayAll0, h, plDs_lay l]
theorem plDs_depth : ∀ l : List (Nat × Nat), PyData.depthAll (l.map plD) ≤ 1
  | [] => by simp [PyData.depthAll]
  | s :: l => by
    have h1 := plDs_depth l
    have h2 : (plD s).depth = 1 := by simp [plD, PyData.depth, PyData.depthAll]
    simp only [List.map_cons, PyData.depthAll]
    omega
theorem plDs_shaped (l : List (Nat × Nat)) : PySem.SeqAt.shaped (.list (l.map plD)) = true := by
  have h1 := plDs_depth l
  show (PyData.canLay0 (.list (l.map plD)) && decide (PyData.depth (.list (l.map plD)) ≤ 64)) = true
  rw [Bool.and_eq_true]
  refine ⟨by simp only [PyData.canLay0]; exact plDs_lay l, decide_eq_true ?_⟩
  simp only [PyData.depth]
  omega
theorem plD_eqv (s t : Nat × Nat) : PyData.eqv (plD s) (plD t) = decide (s = t) := by
  obtain ⟨a, b⟩ := s
  obtain ⟨c, d⟩ := t
  have e : PyData.eqv (plD (a, b)) (plD (c, d)) = (((a : Int) == (c : Int)) && (((b : Int) == (d : Int)) && true)) := by simp only [plD, PyData.eqv, PyData.eqvAll]
  rw [e]
  by_cases h : ((a, b) : Nat × Nat) = (c, d)
  · cases h
    simp
  · rw [decide_eq_false h]
    by_cases h1 : a = c
    · have h2 : ¬ (b : Int) = (d : Int) := fun z => h (by rw [h1, show b = d by omega])
      have e2 : ((b : Int) == (d : Int)) = false := beq_eq_false_iff_ne.mpr h2
      rw [e2, Bool.false_and, Bool.and_false]
    · have e2 : ((a : Int) == (c : Int)) = false := beq_eq_false_iff_ne.mpr (by omega)
      rw [e2, Bool.false_and]
theorem stop_dp {K : PySem.W.Frag} {H : Hp} {v : V} {s : Nat × Nat} (h : StopAt H v s) : Dp K H v (plD s) := by
  obtain ⟨u, rfl, hu⟩ := h
  exact .tup (SqT.of hu) (.cons (.int _) (.cons (.int _) .nil))
theorem stops_dp {K : PySem.W.Frag} {H : Hp} {vs : List V} {l : List (Nat × Nat)} (h : Paired (StopAt H) vs l) : DpAll K H vs (l.map plD) := by
  induction h with
  | nil => exact .nil
  | cons r _ ih => exact .cons (stop_dp r) ih
abbrev s_destination : Stmt := top 15
abbrev N_destination : List Str := ["net", "house", "day", "stops", "back"]
abbrev P_destination : List Str := ["net", "house", "day"]
theorem sc_destination : FnScope N_destination P_destination (defScope s_destination) := ⟨rfl, rfl, rfl, by decide +kernel, rfl, by decide +kernel, by decide +kernel⟩
/-! ### results of letters -/
def spDest (C : Addr) : Sp := fun vs H Q _ => ∃ (x t : Addr) (p h hs dy : Nat) (os : List Od) (F : List Addr), vs = [.ref x, .int hs, .int dy] ∧ NetAt C H x p h os t F ∧ NetOk p h os ∧ hs < h ∧ dy ≤ 1000000000000000000 ∧
  ∀ H' v, Same H H' → OptStop H' v (destOf (folR p h os (hs, dy))) → Q v H'
section
variable {P : Program} {w : World} {K : PySem.W.Frag} {mg : Str → Option Value} {base : Heap}
theorem ok_dest {f C : Addr} {fd : FuncData} (F : Fun K "destination" "destination" s_destination f fd) (DF : Df P w K mg base "follow" 7 P_follow (spFollow C)) : FnOk P w K mg base CX0 8 f fd P_destination (spDest C) := by
  obtain ⟨fF, fdF, gF, kF, bF, GF⟩ := DF
  refine F.ok sc_destination (fun vs H Q E h => ?_) (fun cdv A outer s H vs Q E hr h => ?_)
  · obtain ⟨x, t, p, h, hs, dy, os, F, rfl, _⟩ := h
    rfl
  · obtain ⟨x, t, p, h, hs, dy, os, F, rfl, Nt, nok, hh, hd, q⟩ := h
    refine ⟨_, pss_cons (ps_asg (pe_call GF hr (by rfl) gF kF bF .nil pass0 (pa_cons (pv 0) (pa_cons (pv 1) (pa_cons (pv 2) pa_nil)))) (pg_tup (by rfl) (pgs_cons (pg_name (i := 3) sc_destination.nd rfl (.inl rfl)) (pgs_cons (pg_name (i := 4) sc_destination.nd rfl (.inl rfl)) pgs_nil))))
      (pss_cons (ps_if (pt_cmpR op_notN (pv 4) pe_non (nomark _)) (pss_one (ps_ret pe_non)) pss_nil)
      (pss_one (ps_ret (pe_ix ix_list (pv 3) (pe_un un_neg pe_int) (fun _ _ => rfl))))), ?_⟩
    refine ⟨_, rfl, _, rfl, _, rfl, x, t, p, h, hs, dy, os, F, rfl, Nt, nok, hh, hd, fun H1 r s1 ⟨sl, vs, _, hr1, nsl, hsl, hvs⟩ => ?_⟩
    refine ⟨r, _, rfl, SqT.of hr1, rfl, _, _, rfl, _, _, rfl, rfl, ?_⟩
    have hne := folR_ne (p := p) (h := h) (os := os) (st := (hs, dy))
    unfold destOf at q
    generalize folR p h os (hs, dy) = res at hr1 hvs hne q
    obtain ⟨l, b⟩ := res
    refine ⟨_, rfl, rfl, _, rfl, ?_⟩
    cases b with
    | some b => exact iteT (q H1 .non s1 rfl)
    | none =>
      obtain ⟨l', c, rfl⟩ : ∃ l' c, l = l' ++ [c] := ⟨l.dropLast, l.getLast hne, (List.dropLast_concat_getLast hne).symm⟩
      obtain ⟨vs', v, rfl, _, hv⟩ := pair_split hvs
      refine iteF ⟨_, rfl, 1, rfl, sl, _, -1, _, rfl, rfl, SqL.of hsl, atI_last _ _, q H1 v s1 ?_⟩
      show OptStop H1 v ((l' ++ [c]).getLast?)
      rw [List.getLast?_concat]
      exact hv
end
/-! ### days of a house: plain -/
/-- the three lists of day_sets: by the days below n -/
def arr (p h : Nat) (os : List Od) (hs n : Nat) : List Nat := (List.range n).filter fun d => (folR p h os (hs, d)).2.isNone
def chs (p h : Nat) (os : List Od) (hs n : Nat) : List Nat := (List.range n).filter fun d => (folR p h os (hs, d)).2.isSome
def ret (p h : Nat) (os : List Od) (hs n : Nat) : List Nat := (List.range n).filter fun d => ((folR p h os (hs, d)).1.drop 1).any fun s => decide (s.1 = hs)
theorem filter_nints {n : Nat} {f : Nat → Bool} (h : f n = true) : nints ((List.range (n + 1)).filter f) = nints ((List.range n).filter f) ++ [.int (n : Nat)] := by
  rw [filter_range_succ', if_pos h]
  unfold nints
  rw [List.map_append]
  rfl
theorem filter_nints' {n : Nat} {f : Nat → Bool} (h : f n = false) : nints ((List.range (n + 1)).filter f) = nints ((List.range n).filter f) := by
  rw [filter_range_succ', if_neg (by rw [h]; exact Bool.false_ne_true), List.append_nil]
theorem nints_small {n : Nat} {f : Nat → Bool} (h : n ≤ 30) : (nints ((List.range n).filter f)).length < sizeLine := by
  unfold nints
  rw [List.length_map]
  exact small1000 (Nat.le_trans (List.length_filter_le _ _) (by rw [List.length_range]; omega))
abbrev s_day_sets : Stmt := top 16
abbrev N_day_sets : List Str := ["net", "house", "delivered", "chasing", "returning", "day", "stops", "back", "stop"]
abbrev P_day_sets : List Str := ["net", "house"]
theorem sc_day_sets : FnScope N_day_sets P_day_sets (defScope s_day_sets) := ⟨rfl, rfl, rfl, by decide +kernel, rfl, by decide +kernel, by decide +kernel⟩
def spSets (C : Addr) : Sp := fun vs H Q _ => ∃ (x t : Addr) (p h hs : Nat) (os : List Od) (F : List Addr), vs = [.ref x, .int hs] ∧ NetAt C H x p h os t F ∧ NetOk p h os ∧ hs < h ∧
  ∀ H' r a b c, Same H H' → H r = none → H a = none → H b = none → H c = none → a ≠ b → a ≠ c → b ≠ c → H' r = some (.tup [.ref a, .ref b, .ref c]) → H' a = some (.lst (nints (arr p h os hs p))) → H' b = some (.lst (nints (chs p h os hs p))) → H' c = some (.lst (nints (ret p h os hs p))) → Q (.ref r) H'
theorem inV_houses {hs : Nat} (l : List (Nat × Nat)) : inV (.int (hs : Nat)) (l.map fun s => V.int (s.1 : Nat)) = l.any fun s => decide (s.1 = hs) := by
  unfold inV
  induction l with
  | nil => rfl
  | cons s r ih =>
    rw [List.map_cons, List.any_cons, List.any_cons, ih]
    congr 1
    show decide ((s.1 : Int) = (hs : Int)) = decide (s.1 = hs)
    by_cases c : s.1 = hs
    · rw [decide_eq_true c, decide_eq_true (by rw [c])]
    · rw [decide_eq_false c, decide_eq_false (by omega)]
section
variable {P : Program} {w : World} {K : PySem.W.Frag} {mg : Str → Option Value} {base : Heap}
theorem ok_sets {f C : Addr} {fd : FuncData} (F : Fun K "day_sets" "day_sets" s_day_sets f fd) (B : Blt mg) (T : NetT K C) (DF : Df P w K mg base "follow" 7 P_follow (spFollow C)) : FnOk P w K mg base CX0 8 f fd P_day_sets (spSets C) := by
  obtain ⟨fF, fdF, gF, kF, bF, GF⟩ := DF
  refine F.ok sc_day_sets (fun vs H Q E h => ?_) (fun cdv A outer s H vs Q E hr h => ?_)
  · obtain ⟨x, t, p, h, hs, os, F, rfl, _⟩ := h
    rfl
  · obtain ⟨x, t, p, h, hs, os, F, rfl, Nt, nok, hh, q⟩ := h
    refine ⟨_, pss_cons (ps_par3 (i := 2) (j := 3) (l := 4) rfl sc_day_sets.nd rfl rfl rfl (by decide) (by decide) (by decide) rfl rfl rfl (pa_cons (pe_lst pa_nil) (pa_cons (pe_lst pa_nil) (pa_cons (pe_lst pa_nil) pa_nil))) (by rfl))
      (pss_cons (ps_for PassesOwn.never rfl (pi_range1 rfl B.range (pa_cons (pe_fld (pv 0) rfl) pa_nil)) (pg_name (i := 5) sc_day_sets.nd rfl (.inl rfl))
        (pss_cons (ps_asg (pe_call GF hr (by rfl) gF kF bF .nil pass0 (pa_cons (pv 0) (pa_cons (pv 1) (pa_cons (pv 5) pa_nil)))) (pg_tup (by rfl) (pgs_cons (pg_name (i := 6) sc_day_sets.nd rfl (.inl rfl)) (pgs_cons (pg_name (i := 7) sc_day_sets.nd rfl (.inl rfl)) pgs_nil))))
        (C8.pss_cut (ps_if (pt_cmpR op_isN (pv 7) pe_non (nomark _)) (pss_one (ps_expr (pe_bm PySem.F.plainAttrs_list PySem.F.slot_list_append PySem.F.type_list_append mt_append (pv 2) (pa_cons (pv 5) pa_nil))))
          (pss_one (ps_expr (pe_bm PySem.F.plainAttrs_list PySem.F.slot_list_append PySem.F.type_list_append mt_append (pv 3) (pa_cons (pv 5) pa_nil)))))
        (pss_one (ps_if (pt_cmpR op_in_seq (pv 1) (pe_lc (own := [("stop", 8)]) (g := gName 8) (tt := tYes) (te := tOp (rIxT K) (tVar 8) (tC (.int 0))) (by rfl) sc_day_sets.nd (pi_list (pe_slice sl_list (pv 6) (po_some pe_int) po_none))
            (blkOk_by (N := N_day_sets) (sc := defScope s_day_sets) (by decide +kernel)) (fun _ _ _ _ _ => pg_name (i := 8) sc_day_sets.nd rfl (.inl rfl)) (fun _ _ _ _ _ => pts_nil) (fun _ _ _ _ _ => pe_ix ix_tup (pv 8) pe_int (fun _ _ => rfl))) rfl)
          (pss_one (ps_expr (pe_bm PySem.F.plainAttrs_list PySem.F.slot_list_append PySem.F.type_list_append mt_append (pv 4) (pa_cons (pv 5) pa_nil)))) pss_nil)))))
      (pss_one (ps_ret (pe_tup (pa_cons (pv 2) (pa_cons (pv 3) (pa_cons (pv 4) pa_nil))))))), ?_⟩
    have p30 := nok.p30; have p1 := nok.p1
    refine ⟨Nat.zero_le _, fun a na => ⟨Nat.zero_le _, fun b nb => ⟨Nat.zero_le _, fun c nc => ?_⟩⟩⟩
    have sa := same_upd (o := HO.lst []) na
    have sb := same_upd (o := HO.lst []) nb
    have sc := same_upd (o := HO.lst []) nc
    have nab : a ≠ b := ne_of_none (upd_same (H := H)) nb
    have nac : a ≠ c := ne_of_none (sb _ _ (upd_same (H := H))) nc
    have nbc : b ≠ c := ne_of_none upd_same nc
    have nb0 : H b = none := sa.free nb
    have nc0 : H c = none := sa.free (sb.free nc)
    have naF := Nt.new na
    have nbF := Nt.new nb0
    have ncF := Nt.new nc0
    have s0 : Same H (upd (upd (upd H a (.lst [])) b (.lst [])) c (.lst [])) := sa.trans (sb.trans sc)
    have ha0 : (upd (upd (upd H a (.lst [])) b (.lst [])) c (.lst [])) a = some (.lst []) := sc _ _ (sb _ _ upd_same)
    have hb0 : (upd (upd (upd H a (.lst [])) b (.lst [])) c (.lst [])) b = some (.lst []) := sc _ _ upd_same
    have hc0 : (upd (upd (upd H a (.lst [])) b (.lst [])) c (.lst [])) c = some (.lst []) := upd_same
    have N0 := Nt.same s0
    generalize (upd (upd (upd H a (.lst [])) b (.lst [])) c (.lst [])) = H0 at s0 ha0 hb0 hc0 N0
    obtain ⟨dx, fl, as, _, hx, _⟩ := id N0
    refine ⟨_, _, _, rfl, ?_⟩
    refine ⟨_, rfl, x, C, dx, _, _, rfl, hx, T.cl, T.nP, nf_pe, (p : Int), rfl, by omega, by omega, ?_⟩
    refine for_range (lo := 0) (n := (p : Int).toNat) (fun i σ H' => (∃ x5 x6 x7, σ = [some (.ref x), some (.int hs), some (.ref a), some (.ref b), some (.ref c), x5, x6, x7, none]) ∧ NetAt C H' x p h os t F ∧ Same H H' ∧ H' a = some (.lst (nints (arr p h os hs i))) ∧ H' b = some (.lst (nints (chs p h os hs i))) ∧ H' c = some (.lst (nints (ret p h os hs i))))
      ⟨⟨_, _, _, rfl⟩, N0, s0, ha0, hb0, hc0⟩ ?_ ?_
    · rintro i σ H1 hi ⟨⟨x5, x6, x7, rfl⟩, N1, s1, ha1, hb1, hc1⟩
      have hi30 : i ≤ 30 := by omega
      refine ⟨_, rfl, _, rfl, _, rfl, x, t, p, h, hs, i, os, F, ?_, N1, nok, hh, by omega, fun H2 r s2 ⟨sl, vs, _, hr2, nsl, hsl, hvs⟩ => ?_⟩
      · show [V.ref x, V.int hs, V.int (0 + (i : Int))] = _
        rw [Int.zero_add]
      have ei : V.int (0 + (i : Int)) = .int (i : Nat) := by rw [Int.zero_add]
      refine ⟨r, _, rfl, SqT.of hr2, rfl, _, _, rfl, _, _, rfl, rfl, ?_⟩
      have N2 := N1.same s2
      have ha2 := s2 _ _ ha1
      have hb2 := s2 _ _ hb1
      have hc2 := s2 _ _ hc1
      have nslb : sl ≠ a := (ne_of_none ha1 nsl).symm
      have nslc : sl ≠ b := (ne_of_none hb1 nsl).symm
      have nsld : sl ≠ c := (ne_of_none hc1 nsl).symm
      -- the first two lists
      refine ⟨fun σ' H' => (σ' = [some (.ref x), some (.int hs), some (.ref a), some (.ref b), some (.ref c), some (.int (0 + (i : Int))), some (.ref sl), some (optV (folR p h os (hs, i)).2), none]) ∧ NetAt C H' x p h os t F ∧ Same H H' ∧ H' sl = some (.lst vs) ∧ Paired (StopAt H') vs (folR p h os (hs, i)).1 ∧
          H' a = some (.lst (nints (arr p h os hs (i + 1)))) ∧ H' b = some (.lst (nints (chs p h os hs (i + 1)))) ∧ H' c = some (.lst (nints (ret p h os hs i))), ⟨_, rfl, rfl, _, rfl, ?_⟩, ?_⟩
      · rw [optV_isN]
        cases hb : (folR p h os (hs, i)).2 with
        | none =>
          have e1 : nints (arr p h os hs (i + 1)) = nints (arr p h os hs i) ++ [.int (i : Nat)] := filter_nints (by rw [hb]; rfl)
          have e2 : nints (chs p h os hs (i + 1)) = nints (chs p h os hs i) := filter_nints' (by rw [hb]; rfl)
          refine iteT ⟨_, rfl, .inl ⟨rfl, _, SqL.of ha2⟩, _, rfl, a, _, _, rfl, rfl, ha2, nints_small hi30, ?_⟩
          have k := TupKeep.lst (o := HO.lst (nints (arr p h os hs i) ++ [V.int (0 + (i : Int))])) ha2
          refine ⟨rfl, N2.but (d := a) .upd k naF, fun b' o e => ?_, (upd_ne nslb).trans hsl, StopsAt.keep k hvs, ?_, ?_, ?_⟩
          · rw [upd_ne (ne_of_none e na)]
            exact s2 _ _ (s1 _ _ e)
          · rw [upd_same, e1, ei]
          · rw [upd_ne nab.symm, e2]
            exact hb2
          · rw [upd_ne nac.symm]
            exact hc2
        | some z =>
          have e1 : nints (arr p h os hs (i + 1)) = nints (arr p h os hs i) := filter_nints' (by rw [hb]; rfl)
          have e2 : nints (chs p h os hs (i + 1)) = nints (chs p h os hs i) ++ [.int (i : Nat)] := filter_nints (by rw [hb]; rfl)
          refine iteF ⟨_, rfl, .inl ⟨rfl, _, SqL.of hb2⟩, _, rfl, b, _, _, rfl, rfl, hb2, nints_small hi30, ?_⟩
          have k := TupKeep.lst (o := HO.lst (nints (chs p h os hs i) ++ [V.int (0 + (i : Int))])) hb2
          refine ⟨rfl, N2.but (d := b) .upd k nbF, fun b' o e => ?_, (upd_ne nslc).trans hsl, StopsAt.keep k hvs, ?_, ?_, ?_⟩
          · rw [upd_ne (ne_of_none e nb0)]
            exact s2 _ _ (s1 _ _ e)
          · rw [upd_ne nab, e1]
            exact ha2
          · rw [upd_same, e2, ei]
          · rw [upd_ne nbc.symm]
            exact hc2
      · rintro σ' H3 ⟨rfl, N3, s3, hsl3, hvs3, ha3, hb3, hc3⟩
        have hl := folR_len (p := p) (h := h) (os := os) (st := (hs, i))
        have hsm := small301 nok
        have ert : ((folR p h os (hs, i)).1.drop 1).any (fun s => decide (s.1 = hs)) = (fun d => ((folR p h os (hs, d)).1.drop 1).any fun s => decide (s.1 = hs)) i := rfl
        generalize hl0 : (folR p h os (hs, i)).1 = l at hvs3 hl ert
        refine ⟨_, rfl, _, rfl, 1, rfl, sl, vs, rfl, SqL.of hsl3, fun cl ncl => ?_⟩
        rw [show cutV vs (some (1 : Int)) none = vs.drop 1 from cut_from (n := 1)]
        have s4 := same_upd (o := HO.lst (vs.drop 1)) ncl
        refine ⟨cl, rfl, ⟨_, SqL.of upd_same⟩, fun D nD => ?_⟩
        have nclD : cl ≠ D := ne_of_none upd_same nD
        have hvs4 := pair_drop (StopsAt.keep (tk_of s4) hvs3) 1
        have hlen := hvs4.length
        refine lc_list (K := K) (a := cl) (xs := vs.drop 1) (fun j H' => H' = upd (upd H3 cl (.lst (vs.drop 1))) D (.lst (((l.drop 1).take j).map fun s => V.int (s.1 : Nat)))) rfl (fun j H' _ e => by rw [e]; exact SqL.of ((upd_ne nclD).trans upd_same)) ?_ ?_
        · rintro j v H' hj rfl
          have lt : j < (l.drop 1).length := by rw [← hlen]; exact (List.getElem?_eq_some_iff.mp hj).1
          obtain ⟨v', hv', u, ev, hu⟩ := Paired.get? (i := j) hvs4 (List.getElem?_eq_getElem lt)
          obtain rfl : v' = v := Option.some.inj (hv'.symm.trans hj)
          subst ev
          have nuD : u ≠ D := ne_of_none hu nD
          refine ⟨rfl, _, rfl, u, _, 0, _, rfl, rfl, SqT.of ((upd_ne nuD).trans hu), atI_nat (j := 0) rfl, _, upd_same, ?_, ?_⟩
          · rw [List.length_map, List.length_take, List.length_drop]
            exact small1000 (by omega)
          · rw [upd_upd, List.take_add_one, List.getElem?_eq_getElem lt, List.map_append]
            rfl
        · rintro H' rfl
          rw [hlen, List.take_of_length_le (Nat.le_refl _)]
          have s5 := same_upd (o := HO.lst ((l.drop 1).map fun s => V.int (s.1 : Nat))) nD
          have s45 := s4.trans s5
          refine ⟨D, _, rfl, .inl (SqL.of upd_same), rfl, ?_, _, rfl, ?_⟩
          · rw [List.all_eq_true]
            intro v hv
            obtain ⟨s, _, rfl⟩ := List.mem_map.mp hv
            rfl
          rw [inV_houses]
          have hc4 := s45 _ _ hc3
          have ha4 := s45 _ _ ha3
          have hb4 := s45 _ _ hb3
          have N4 := N3.same s45
          have s6 := s3.trans s45
          generalize (upd (upd H3 cl (.lst (vs.drop 1))) D (.lst ((l.drop 1).map fun s => V.int (s.1 : Nat)))) = H4 at hc4 ha4 hb4 N4 s6
          refine ite2 (fun e => ?_) (fun e => ?_)
          · have e1 : nints (ret p h os hs (i + 1)) = nints (ret p h os hs i) ++ [.int (i : Nat)] := filter_nints (by show ((folR p h os (hs, i)).1.drop 1).any _ = true; rw [hl0]; exact e)
            refine ⟨_, rfl, .inl ⟨rfl, _, SqL.of hc4⟩, _, rfl, c, _, _, rfl, rfl, hc4, nints_small hi30, ?_⟩
            have k := TupKeep.lst (o := HO.lst (nints (ret p h os hs i) ++ [V.int (0 + (i : Int))])) hc4
            refine ⟨⟨_, _, _, rfl⟩, N4.but (d := c) .upd k ncF, fun b' o e' => ?_, (upd_ne nac).trans ha4, (upd_ne nbc).trans hb4, ?_⟩
            · rw [upd_ne (ne_of_none e' nc0)]
              exact s6 _ _ e'
            · rw [upd_same, e1, ei]
          · have e1 : nints (ret p h os hs (i + 1)) = nints (ret p h os hs i) := filter_nints' (by show ((folR p h os (hs, i)).1.drop 1).any _ = false; rw [hl0]; exact Bool.eq_false_iff.mpr e)
            refine ⟨⟨_, _, _, rfl⟩, N4, s6, ha4, hb4, ?_⟩
            rw [e1]
            exact hc4
    · rintro σ H1 ⟨⟨x5, x6, x7, rfl⟩, N1, s1, ha1, hb1, hc1⟩
      refine ⟨_, rfl, _, rfl, _, rfl, (by show 3 ≤ sizeLine; decide), fun r nr => ?_⟩
      have s2 := same_upd (o := HO.tup [.ref a, .ref b, .ref c]) nr
      exact q _ r a b c (s1.trans s2) (s1.free nr) na nb0 nc0 nab nac nbc upd_same (s2 _ _ ha1) (s2 _ _ hb1) (s2 _ _ hc1)
end
/-! ### equal data (nested lists and tuples of None, bools, ints, texts) -/
def Flat1 (v : V) : Prop := v = .non ∨ (∃ b, v = .bl b) ∨ (∃ i, v = .int i) ∨ ∃ s, v = .str s
def Eqv : Nat → Hp → V → V → Prop
  | 0, _, a, b => a = b ∧ Flat1 a
  | n + 1, H, a, b => (a = b ∧ Flat1 a) ∨ (∃ p q xs ys, a = .ref p ∧ b = .ref q ∧ H p = some (.tup xs) ∧ H q = some (.tup ys) ∧ xs.length ≤ 1000 ∧ Paired (Eqv n H) xs ys) ∨
      ∃ p q xs ys, a = .ref p ∧ b = .ref q ∧ H p = some (.lst xs) ∧ H q = some (.lst ys) ∧ xs.length ≤ 1000 ∧ Paired (Eqv n H) xs ys
theorem Eqv.flat {n : Nat} {H : Hp} {a b : V} (e : a = b) (f : Flat1 a) : Eqv n H a b := by
  cases n with
  | zero => exact ⟨e, f⟩
  | succ n => exact .inl ⟨e, f⟩
theorem Eqv.int {n : Nat} {H : Hp} {i : Int} : Eqv n H (.int i) (.int i) := Eqv.flat rfl (.inr (.inr (.inl ⟨i, rfl⟩)))
theorem Eqv.non {n : Nat} {H : Hp} : Eqv n H .non .non := Eqv.flat rfl (.inl rfl)
theorem Eqv.same : ∀ {n : Nat} {H H' : Hp} {a b : V}, Same H H' → Eqv n H a b → Eqv n H' a b
  | 0, _, _, _, _, _, h => h
  | n + 1, H, H', a, b, s, h => by
    rcases h with h | ⟨p, q, xs, ys, e1, e2, h1, h2, h3, h4⟩ | ⟨p, q, xs, ys, e1, e2, h1, h2, h3, h4⟩
    · exact .inl h
    · exact .inr (.inl ⟨p, q, xs, ys, e1, e2, s _ _ h1, s _ _ h2, h3, Paired.mapP h4 fun _ _ z => Eqv.same s z⟩)
    · exact .inr (.inr ⟨p, q, xs, ys, e1, e2, s _ _ h1, s _ _ h2, h3, Paired.mapP h4 fun _ _ z => Eqv.same s z⟩)
theorem optEqv {H : Hp} {v v' : V} {o : Option (Nat × Nat)} (h : OptStop H v o) (h' : OptStop H v' o) : Eqv 1 H v v' := by
  cases o with
  | none =>
    obtain rfl : v = .non := h
    obtain rfl : v' = .non := h'
    exact Eqv.non
  | some s =>
    obtain ⟨u, rfl, hu⟩ := h
    obtain ⟨u2, rfl, hu2⟩ := h'
    exact .inr (.inl ⟨u, u2, _, _, rfl, rfl, hu, hu2, by show 2 ≤ 1000; decide, .cons Eqv.int (.cons Eqv.int .nil)⟩)
theorem OptStop.keep {H H' : Hp} {v : V} {o : Option (Nat × Nat)} (k : TupKeep H H') (h : OptStop H v o) : OptStop H' v o := by
  cases o with
  | none => exact h
  | some s => exact StopAt.keep k h
abbrev s_l_day : Stmt := top 54
abbrev N_l_day : List Str := ["_law_d"]
abbrev P_l_day : List Str := ["_law_d"]
theorem sc_l_day : FnScope N_l_day P_l_day (defScope s_l_day) := ⟨rfl, rfl, rfl, by decide +kernel, rfl, by decide +kernel, by decide +kernel⟩
def spDay0 : Sp := fun vs H Q _ => ∃ (d : Addr), vs = [.ref d] ∧ DAt H d ∧ ∀ H' (r : Nat), r ≤ 1000000000000000000 → But d H H' → DAt H' d → Q (.int r) H'
section
variable {P : Program} {w : World} {K : PySem.W.Frag} {mg : Str → Option Value} {base : Heap}
theorem ok_day0 {f : Addr} {fd : FuncData} (F : Fun K "_law_day" "_law_day" s_l_day f fd) (DB : Df P w K mg base "_law_below" 2 P_l_below spBelow) : FnOk P w K mg base CX0 3 f fd P_l_day spDay0 := by
  obtain ⟨fB, fdB, gB, kB, bB, GB⟩ := DB
  refine F.ok sc_l_day (fun vs H Q E h => ?_) (fun cdv A outer s H vs Q E hr h => ?_)
  · obtain ⟨d, rfl, _⟩ := h
    rfl
  · obtain ⟨d, rfl, hD, q⟩ := h
    refine ⟨_, pss_one (ps_ret (pe_ix ix_list (pe_lst (pa_cons (pe_call GB hr (by rfl) gB kB bB .nil pass0 (pa_cons (pv 0) (pa_cons pe_int pa_nil)))
        (pa_cons (pe_op op_sub (pe_op op_pow pe_int pe_int) (pe_call GB hr (by rfl) gB kB bB .nil pass0 (pa_cons (pv 0) (pa_cons (pe_op op_pow pe_int pe_int) pa_nil)))) pa_nil)))
      (pe_call GB hr (by rfl) gB kB bB .nil pass0 (pa_cons (pv 0) (pa_cons pe_int pa_nil))) (fun _ _ => rfl))), ?_⟩
    refine ⟨_, rfl, d, 40, rfl, hD, by decide, by decide, fun H1 x1 hx1 b1 D1 => ?_⟩
    refine ⟨_, _, rfl, rfl, ⟨by decide, by decide, by decide⟩, _, rfl, _, _, rfl, rfl, ⟨by decide, by decide, by decide⟩, d, 1000000, rfl, D1, by decide, by decide, fun H2 x2 hx2 b2 D2 => ?_⟩
    refine ⟨_, _, rfl, rfl, (by show 2 ≤ sizeLine; decide), fun l nl => ?_⟩
    have D2' := D2.but (same_upd (o := HO.lst [V.int (x1 : Int), V.int ((10 : Int) ^ (18 : Int).toNat - (x2 : Int))]) nl)
    have ndl : d ≠ l := ne_of_none D2.som.choose_spec nl
    refine ⟨_, rfl, d, 2, rfl, D2', by decide, by decide, fun H3 b hb b3 D3 => ?_⟩
    have hl3 := b3 l _ ndl.symm upd_same
    obtain ⟨r, hr1, hr2⟩ : ∃ r : Nat, atI [V.int (x1 : Int), V.int ((10 : Int) ^ (18 : Int).toNat - (x2 : Int))] (b : Int) = some (V.int r) ∧ r ≤ 1000000000000000000 := by
      obtain ⟨v, q1, q2⟩ := two_at (x := V.int (x1 : Int)) (y := V.int ((10 : Int) ^ (18 : Int).toNat - (x2 : Int))) hb
      rcases q2 with q2 | q2
      · exact ⟨x1, by rw [q1, q2], by omega⟩
      · refine ⟨1000000000000000000 - x2, ?_, by omega⟩
        rw [q1, q2, show ((10 : Int) ^ (18 : Int).toNat) = 1000000000000000000 from by decide]
        rw [show ((1000000000000000000 - x2 : Nat) : Int) = 1000000000000000000 - (x2 : Int) by omega]
    exact ⟨l, _, _, _, rfl, rfl, SqL.of hl3, hr1, q H3 r hr2 (b1.trans (b2.trans ((But.new nl).trans b3))) D3⟩
end
/-! ### the law -/
def spLaw (K : PySem.W.Frag) : Sp := fun vs H Q _ => ∃ (a : Addr) (ns : List Int), vs = [.ref a] ∧ SqL K H a (ns.map V.int) ∧ ns.length ≤ 63 ∧ ∀ H', Q (.bl true) H'
/-- all that the law's step leans on, at the heap H -/
structure StepAt (C : Addr) (H : Hp) (d ap x t : Addr) (p h : Nat) (os : List Od) (F : List Addr) : Prop where
  D : DAt H d
  pa : H ap = some (.tup [.int p, .int h, .ref t])
  po : OrdsTup H t os
  N : NetAt C H x p h os t F
theorem StepAt.keep {C : Addr} {H H' : Hp} {d ap x t : Addr} {p h : Nat} {os : List Od} {F : List Addr} (S : StepAt C H d ap x t p h os F) (s : Same H H') : StepAt C H' d ap x t p h os F :=
  ⟨S.D.but s, s _ _ S.pa, S.po.keep (tk_of s), S.N.same s⟩
theorem StepAt.but {C : Addr} {H H' : Hp} {d ap x t : Addr} {p h : Nat} {os : List Od} {F : List Addr} (S : StepAt C H d ap x t p h os F) (s : But d H H') (D' : DAt H' d) (nF : d ∉ F) : StepAt C H' d ap x t p h os F :=
  ⟨D', s.tk S.D _ _ S.pa, S.po.keep (s.tk S.D), S.N.but s (s.tk S.D) nF⟩
theorem StepAt.lst {C : Addr} {H : Hp} {d ap x t u : Addr} {p h : Nat} {os : List Od} {F : List Addr} {xs : List V} {o : HO} (S : StepAt C H d ap x t p h os F) (hu : H u = some (.lst xs)) (nd : d ≠ u) (nF : u ∉ F) : StepAt C (upd H u o) d ap x t p h os F := by
  have tk : TupKeep H (upd H u o) := TupKeep.lst hu
  exact ⟨S.D.updN nd, tk _ _ S.pa, S.po.keep tk, S.N.but .upd tk nF⟩
theorem StepAt.parts {C : Addr} {H : Hp} {d ap x t : Addr} {p h : Nat} {os : List Od} {F : List Addr} (S : StepAt C H d ap x t p h os F) : PartsAt H ap p h os := ⟨t, S.pa, S.po⟩
theorem ordsEqv {H : Hp} {t : Addr} {os : List Od} (h : OrdsTup H t os) (l : os.length ≤ 20) : Eqv 2 H (.ref t) (.ref t) := by
  obtain ⟨ts, ht, hP⟩ := h
  refine .inr (.inl ⟨t, t, ts, ts, rfl, rfl, ht, ht, by rw [hP.length]; omega, ?_⟩)
  clear l ht
  induction hP with
  | nil => exact .nil
  | cons r _ ih =>
    refine .cons ?_ ih
    obtain ⟨u, rfl, hu⟩ := r
    exact .inr (.inl ⟨u, u, _, _, rfl, rfl, hu, hu, by show 5 ≤ 1000; decide, .cons Eqv.int (.cons Eqv.int (.cons Eqv.int (.cons Eqv.int (.cons Eqv.int .nil))))⟩)
theorem nintsEqv {H : Hp} {a b : Addr} {l : List Nat} (ha : H a = some (.lst (nints l))) (hb : H b = some (.lst (nints l))) (hl : l.length ≤ 1000) : Eqv 1 H (.ref a) (.ref b) := by
  refine .inr (.inr ⟨a, b, _, _, rfl, rfl, ha, hb, by unfold nints; rw [List.length_map]; exact hl, ?_⟩)
  unfold nints
  clear ha hb hl
  induction l with
  | nil => exact .nil
  | cons n l ih => exact .cons ⟨rfl, .inr (.inr (.inl ⟨_, rfl⟩))⟩ ih
theorem stopsEqv {H : Hp} {a b : Addr} {xs ys : List V} {l : List (Nat × Nat)} (ha : H a = some (.lst xs)) (hb : H b = some (.lst ys)) (hx : Paired (StopAt H) xs l) (hy : Paired (StopAt H) ys l) (hl : l.length ≤ 1000) : Eqv 2 H (.ref a) (.ref b) := by
  refine .inr (.inr ⟨a, b, _, _, rfl, rfl, ha, hb, by rw [hx.length]; exact hl, ?_⟩)
  clear ha hb hl
  induction hx generalizing ys with
  | nil => cases hy; exact .nil
  | cons r _ ih =>
    cases hy with
    | cons r2 t2 =>
      refine .cons ?_ (ih t2)
      obtain ⟨u, rfl, hu⟩ := r
      obtain ⟨u2, rfl, hu2⟩ := r2
      exact .inr (.inl ⟨u, u2, _, _, rfl, rfl, hu, hu2, by show 2 ≤ 1000; decide, .cons (Eqv.int) (.cons Eqv.int .nil)⟩)
theorem optV_flat1 (o : Option Nat) : Flat1 (optV o) := by
  cases o with
  | none => exact .inl rfl
  | some k => exact .inr (.inr (.inl ⟨_, rfl⟩))
theorem Paired.last {α β : Type} {F : α → β → Prop} {xs : List α} {l : List β} {s : β} (h : Paired F xs (l ++ [s])) : ∃ ys v, xs = ys ++ [v] ∧ Paired F ys l ∧ F v s := by
  induction l generalizing xs with
  | nil =>
    cases h with
    | cons r t =>
      cases t
      exact ⟨[], _, rfl, .nil, r⟩
  | cons b l ih =>
    cases h with
    | cons r t =>
      obtain ⟨ys, v, rfl, h1, h2⟩ := ih t
      exact ⟨_ :: ys, v, rfl, .cons r h1, h2⟩
theorem Paired.take {α β : Type} {F : α → β → Prop} {xs : List α} {l : List β} (h : Paired F xs l) : ∀ n, Paired F (xs.take n) (l.take n) := by
  induction h with
  | nil =>
    intro n
    rw [List.take_nil, List.take_nil]
    exact .nil
  | cons r _ ih =>
    intro n
    cases n with
    | zero => exact .nil
    | succ n => exact .cons r (ih n)
theorem nints_dp {K : PySem.W.Frag} {H : Hp} {a : Addr} {l : List Nat} (h : H a = some (.lst (nints l))) : Dp K H (.ref a) (.list ((l.map fun (n : Nat) => (n : Int)).map PyData.int)) := by
  refine .lst (SqL.of h) ?_
  clear h
  unfold nints
  induction l with
  | nil => exact .nil
  | cons n l ih => exact .cons (.int _) ih
theorem nints_eqv (l : List Int) : PyData.eqv (.list (l.map PyData.int)) (.list (l.map PyData.int)) = true :=
  PySem.SeqAt.eqv_refl _ (PySem.SeqAt.canLay_of_shaped (PySem.W.ke_shaped_ints l))
abbrev s_last_stop : Stmt := top 24
abbrev N_last_stop : List Str := ["net", "house", "day", "later", "stops", "back", "skipped_days", "skipped_hops", "days", "rounds", "index", "stop"]
abbrev P_last_stop : List Str := ["net", "house", "day", "later"]
theorem sc_last_stop : FnScope N_last_stop P_last_stop (defScope s_last_stop) := ⟨rfl, rfl, rfl, by decide +kernel, rfl, by decide +kernel, by decide +kernel⟩
/-! ### the last stop of a letter -/
theorem stp_le {p h : Nat} {os : List Od} {st : Nat × Nat} (ok : NetOk p h os) : ∀ (i : Nat) {s : Nat × Nat}, stp p os i st = some s → st.2 ≤ s.2 ∧ s.2 ≤ st.2 + 9 * i
  | 0, s, e => by
    rw [← Option.some.inj (show some st = some s from e)]
    omega
  | i + 1, s, e => by
    have e' : (stp p os i st).bind (hop p os) = some s := e
    cases q : stp p os i st with
    | none =>
      rw [q] at e'
      cases e'
    | some c =>
      rw [q] at e'
      have e2 : hop p os c = some s := e'
      have h1 := stp_le ok i q
      have h2 := hop_more ok e2
      have h3 : s.2 ≤ c.2 + 9 := by
        unfold hop at e2
        cases q2 : idx p os c.1 (c.2 : Int) with
        | none =>
          rw [q2] at e2
          cases e2
        | some j =>
          simp only [q2] at e2
          have hj := idx_lt q2
          rw [List.getElem?_eq_getElem hj] at e2
          rw [← Option.some.inj e2]
          have := (ok.ok _ (List.getElem_mem hj)).e
          show c.2 + _ ≤ c.2 + 9
          omega
      omega
/-- what is needed of a chasing letter's stops -/
theorem folR_some {p h : Nat} {os : List Od} {st : Nat × Nat} {b : Nat} (ok : NetOk p h os) (hh : st.1 < h) (e : (folR p h os st).2 = some b) : ∃ m s t, (folR p h os st).1 = m ++ [s] ∧ m[b]? = some t ∧ t.2 < s.2 ∧ s.2 - t.2 ≤ 2709 := by
  have hl := folR_len (p := p) (h := h) (os := os) (st := st)
  have h3 := small301 ok
  rcases folR_cases ok hh with ⟨l, e1, _⟩ | ⟨m, s, b', t, k, e1, e2, e3, e4, e5, _⟩
  · rw [e1] at e
    cases e
  · rw [e1] at e hl
    obtain rfl : b' = b := Option.some.inj e
    have hbl : b' < m.length := (List.getElem?_eq_some_iff.mp e3).1
    simp only [List.length_append, List.length_singleton] at hl
    have g1 : stp p os b' st = some t := by
      rw [← e2 b' (by omega), List.getElem?_append_left hbl]
      exact e3
    have g2 : stp p os m.length st = some s := by
      rw [← e2 _ (Nat.le_refl _), List.getElem?_append_right (Nat.le_refl _), Nat.sub_self]
      rfl
    have h4 := stp_le ok _ g1
    have h5 := stp_le ok _ g2
    have h6 : s.2 = t.2 + p * k := by rw [e4]; rfl
    refine ⟨m, s, t, by rw [e1], e3, by omega, ?_⟩
    omega
theorem skips_none {l : List (Nat × Nat)} {x : Nat} : skips (l, none) x = (0, 0) := rfl
theorem skips_some {m : List (Nat × Nat)} {s t : Nat × Nat} {b x : Nat} (h : m[b]? = some t) : skips (m ++ [s], some b) x = if t.2 ≤ x then ((x - t.2) / (s.2 - t.2) * (s.2 - t.2), (x - t.2) / (s.2 - t.2) * (m.length - b)) else (0, 0) := by
  unfold skips
  have g1 : (m ++ [s])[b]? = some t := by
    rw [List.getElem?_append_left (List.getElem?_eq_some_iff.mp h).1]
    exact h
  simp only [g1, List.getLast?_concat]
  rw [List.length_append, List.length_singleton, Nat.add_sub_cancel]
def spLast (C : Addr) : Sp := fun vs H Q _ => ∃ (x t : Addr) (p h hs dy z : Nat) (os : List Od) (F : List Addr), vs = [.ref x, .int hs, .int dy, .int z] ∧ NetAt C H x p h os t F ∧ NetOk p h os ∧ hs < h ∧ dy ≤ 1000000000000000000 ∧ dy ≤ z ∧ z ≤ 1000000000000000000 ∧
  ∀ H' r c j, Same H H' → LastAt p os (hs, dy) z c j → H' r = some (.tup [.int c.1, .int c.2, .int j]) → Q (.ref r) H'
section
variable {P : Program} {w : World} {K : PySem.W.Frag} {mg : Str → Option Value} {base : Heap}
theorem ok_last {f C : Addr} {fd : FuncData} (F : Fun K "last_stop" "last_stop" s_last_stop f fd) (B : Blt mg) (DF : Df P w K mg base "follow" 7 P_follow (spFollow C)) : FnOk P w K mg base CX0 8 f fd P_last_stop (spLast C) := by
  obtain ⟨fF, fdF, gF, kF, bF, GF⟩ := DF
  refine F.ok sc_last_stop (fun vs H Q E h => ?_) (fun cdv A outer s H vs Q E hr h => ?_)
  · obtain ⟨x, t, p, h, hs, dy, z, os, F, rfl, _⟩ := h
    rfl
  · obtain ⟨x, t, p, h, hs, dy, z, os, F, rfl, Nt, nok, hh, hd, hdz, hz, q⟩ := h
    refine ⟨_, pss_cons (ps_asg (pe_call GF hr (by rfl) gF kF bF .nil pass0 (pa_cons (pv 0) (pa_cons (pv 1) (pa_cons (pv 2) pa_nil)))) (pg_tup (by rfl) (pgs_cons (pg_name (i := 4) sc_last_stop.nd rfl (.inl rfl)) (pgs_cons (pg_name (i := 5) sc_last_stop.nd rfl (.inl rfl)) pgs_nil))))
      (pss_cons (ps_asg (pe_tup (pa_cons pe_int (pa_cons pe_int pa_nil))) (pg_tup (by rfl) (pgs_cons (pg_name (i := 6) sc_last_stop.nd rfl (.inr rfl)) (pgs_cons (pg_name (i := 7) sc_last_stop.nd rfl (.inl rfl)) pgs_nil))))
      (C8.pss_cut (ps_if (PW.pt (pw_and (pt_cmpR op_notN (pv 5) pe_non (nomark _)) (pw_and1 (pt_cmpR op_ge (pv 3) (pe_ix ix_tup (pe_ix ix_list (pv 4) (pv 5) (fun _ _ => rfl)) pe_int (fun _ _ => rfl)) (nomark _)))))
          (pss_cons (ps_set (i := 8) sc_last_stop.nd rfl (.inl rfl) (pe_op op_sub (pe_ix ix_tup (pe_ix ix_list (pv 4) (pe_un un_neg pe_int) (fun _ _ => rfl)) pe_int (fun _ _ => rfl)) (pe_ix ix_tup (pe_ix ix_list (pv 4) (pv 5) (fun _ _ => rfl)) pe_int (fun _ _ => rfl))))
          (pss_cons (ps_set (i := 9) sc_last_stop.nd rfl (.inl rfl) (pe_op op_fdivN (pe_op op_sub (pv 3) (pe_ix ix_tup (pe_ix ix_list (pv 4) (pv 5) (fun _ _ => rfl)) pe_int (fun _ _ => rfl))) (pv 8)))
          (pss_cons (ps_set (i := 6) sc_last_stop.nd rfl (.inr rfl) (pe_op op_mul (pv 9) (pv 8)))
          (pss_one (ps_set (i := 7) sc_last_stop.nd rfl (.inl rfl) (pe_op op_mul (pv 9) (pe_op op_sub (pe_op op_sub (pe_callB call_len_seq (by rfl) B.len PySem.boot_len (pa_cons (pv 4) pa_nil)) pe_int) (pv 5))))))))
          pss_nil)
      (pss_cons (ps_set (i := 10) sc_last_stop.nd rfl (.inl rfl) (pe_op op_sub (pe_callB call_len_seq (by rfl) B.len PySem.boot_len (pa_cons
          (pe_lc (own := [("stop", 11)]) (g := gName 11) (tt := tTest (tOp (rI0 fun i j => .bl (decide (i ≤ j))) (tOp (rI0 fun i j => .int (i + j)) (tOp (rIxT K) (tVar 11) (tC (.int 1))) (tVar 6)) (tVar 3))) (by rfl) sc_last_stop.nd (pi_list (pv 4))
            (blkOk_by (N := N_last_stop) (sc := defScope s_last_stop) (by decide +kernel)) (fun _ _ _ _ _ => pg_name (i := 11) sc_last_stop.nd rfl (.inl rfl)) (fun _ _ _ _ _ => pts_one (pt_cmpR op_le (pe_op op_add (pe_ix ix_tup (pv 11) pe_int (fun _ _ => rfl)) (pv 6)) (pv 3) (nomark _))) (fun _ _ _ _ _ => pv 11)) pa_nil)) pe_int))
      (pss_one (ps_ret (pe_tup (pa_cons (pe_ix ix_tup (pe_ix ix_list (pv 4) (pv 10) (fun _ _ => rfl)) pe_int (fun _ _ => rfl)) (pa_cons (pe_op op_add (pe_ix ix_tup (pe_ix ix_list (pv 4) (pv 10) (fun _ _ => rfl)) pe_int (fun _ _ => rfl)) (pv 6)) (pa_cons (pe_op op_add (pv 10) (pv 7)) pa_nil))))))))), ?_⟩
    refine ⟨_, rfl, _, rfl, _, rfl, x, t, p, h, hs, dy, os, F, rfl, Nt, nok, hh, hd, fun H1 r s1 ⟨sl, vs, _, hr1, nsl, hsl, hvs⟩ => ?_⟩
    refine ⟨r, _, rfl, SqT.of hr1, rfl, _, _, rfl, _, _, rfl, rfl, ?_⟩
    refine ⟨(by show 2 ≤ sizeLine; decide), fun y ny => ?_⟩
    have s2 := same_upd (o := HO.tup [.int 0, .int 0]) ny
    refine ⟨y, _, rfl, SqT.of upd_same, rfl, _, _, rfl, _, _, rfl, rfl, ?_⟩
    have hsl2 := s2 _ _ hsl
    have hvs2 := StopsAt.keep (tk_of s2) hvs
    have sH2 := s1.trans s2
    generalize (upd H1 y (.tup [.int 0, .int 0])) = H2 at hsl2 hvs2 sH2
    have hlen := folR_len (p := p) (h := h) (os := os) (st := (hs, dy))
    have h301 := small301 nok
    have vlen := hvs2.length
    obtain ⟨c, s0, hc, hs0, hla, _⟩ := last_of (x := z) nok (st := (hs, dy)) hh hdz
    generalize hsk : skips (folR p h os (hs, dy)) z = sk at hc hla
    refine ⟨fun σ' H' => (∃ y8 y9, σ' = [some (.ref x), some (.int hs), some (.int dy), some (.int z), some (.ref sl), some (optV (folR p h os (hs, dy)).2), some (.int sk.1), some (.int sk.2), y8, y9, none, none]) ∧ H' = H2, ⟨_, rfl, rfl, _, rfl, ?_⟩, ?_⟩
    · cases hb : (folR p h os (hs, dy)).2 with
      | none =>
        have e1 : sk = (0, 0) := by
          rw [← hsk, show folR p h os (hs, dy) = ((folR p h os (hs, dy)).1, none) from Prod.ext rfl hb]
          rfl
        rw [e1]
        exact ⟨⟨none, none, rfl⟩, rfl⟩
      | some b =>
        obtain ⟨m, s, t0, e1, e2, e3, e4⟩ := folR_some nok (st := (hs, dy)) hh hb
        have hbl : b < m.length := (List.getElem?_eq_some_iff.mp e2).1
        rw [e1] at hvs2 vlen
        have e5 : sk = if t0.2 ≤ z then ((z - t0.2) / (s.2 - t0.2) * (s.2 - t0.2), (z - t0.2) / (s.2 - t0.2) * (m.length - b)) else (0, 0) := by
          rw [← hsk, show folR p h os (hs, dy) = (m ++ [s], some b) from Prod.ext e1 hb]
          exact skips_some e2
        obtain ⟨vt, hvt, ut, rfl, hut⟩ := Paired.get? (i := b) hvs2 (by rw [List.getElem?_append_left hbl]; exact e2)
        obtain ⟨vs', vl, ev, _, ul, rfl, hul⟩ := pair_split hvs2
        have hlast : atI vs (-1) = some (.ref ul) := by rw [ev]; exact atI_last _ _
        refine iteT ⟨_, rfl, _, rfl, _, rfl, sl, _, _, _, rfl, rfl, SqL.of hsl2, atI_nat hvt, ut, _, 1, _, rfl, rfl, SqT.of hut, atI_nat (j := 1) rfl, _, _, rfl, rfl, _, rfl, ite2 (fun e => ?_) (fun e => ?_)⟩
        · have le : t0.2 ≤ z := by
            have := of_decide_eq_true e
            omega
          rw [if_pos le] at e5
          refine ⟨_, rfl, 1, rfl, sl, _, -1, _, rfl, rfl, SqL.of hsl2, hlast, ul, _, 1, _, rfl, rfl, SqT.of hul, atI_nat (j := 1) rfl, _, rfl, _, rfl, sl, _, _, _, rfl, rfl, SqL.of hsl2, atI_nat hvt, ut, _, 1, _, rfl, rfl, SqT.of hut, atI_nat (j := 1) rfl, _, _, rfl, rfl, ?_⟩
          refine ⟨_, rfl, _, rfl, _, rfl, sl, _, _, _, rfl, rfl, SqL.of hsl2, atI_nat hvt, ut, _, 1, _, rfl, rfl, SqT.of hut, atI_nat (j := 1) rfl, _, _, rfl, rfl, _, rfl, _, _, rfl, rfl, ⟨by omega, by omega⟩, ?_⟩
          have er : (((z : Nat) : Int) - ((t0.2 : Nat) : Int)).fdiv (((s.2 : Nat) : Int) - ((t0.2 : Nat) : Int)) = (((z - t0.2) / (s.2 - t0.2) : Nat) : Int) := by
            rw [← Int.ofNat_sub le, ← Int.ofNat_sub (Nat.le_of_lt e3), fdiv_nat]
          have rle : (z - t0.2) / (s.2 - t0.2) ≤ z := Nat.le_trans (Nat.div_le_self _ _) (Nat.sub_le _ _)
          simp only [er]
          generalize hR : (z - t0.2) / (s.2 - t0.2) = R at rle e5
          refine ⟨_, rfl, _, rfl, _, _, rfl, rfl, .inl ⟨by omega, by omega⟩, ?_⟩
          refine ⟨_, rfl, _, rfl, sl, _, rfl, .inl (SqL.of hsl2), _, _, rfl, rfl, _, rfl, _, _, rfl, rfl, _, _, rfl, rfl, .inl ⟨by omega, by omega⟩, ?_⟩
          refine ⟨⟨some (.int (((s.2 : Nat) : Int) - ((t0.2 : Nat) : Int))), some (.int (R : Nat)), ?_⟩, rfl⟩
          have a1 : (R : Int) * (((s.2 : Nat) : Int) - ((t0.2 : Nat) : Int)) = ((sk.1 : Nat) : Int) := by
            rw [e5, ← Int.ofNat_sub (Nat.le_of_lt e3), ← Int.natCast_mul]
          have a2 : (R : Int) * (((vs.length : Nat) : Int) - 1 - ((b : Nat) : Int)) = ((sk.2 : Nat) : Int) := by
            rw [vlen, e5, List.length_append, List.length_singleton]
            rw [show (((m.length + 1 : Nat) : Int) - 1 - ((b : Nat) : Int)) = ((m.length - b : Nat) : Int) by omega, ← Int.natCast_mul]
          show [some (V.ref x), some (V.int hs), some (V.int dy), some (V.int z), some (V.ref sl), some (V.int (b : Nat)), some (V.int ((R : Int) * (((s.2 : Nat) : Int) - ((t0.2 : Nat) : Int)))), some (V.int ((R : Int) * (((vs.length : Nat) : Int) - 1 - ((b : Nat) : Int)))), some (.int (((s.2 : Nat) : Int) - ((t0.2 : Nat) : Int))), some (.int (R : Nat)), none, none] = _
          rw [a1, a2]
          rfl
        · have nle : ¬ t0.2 ≤ z := fun w => e (decide_eq_true (by omega))
          rw [if_neg nle] at e5
          rw [e5]
          exact ⟨⟨none, none, rfl⟩, rfl⟩
    · rintro σ' H3 ⟨⟨y8, y9, rfl⟩, rfl⟩
      generalize hl0 : (folR p h os (hs, dy)).1 = l at hvs2 hlen hc hs0 vlen
      refine ⟨_, rfl, _, rfl, ⟨_, SqL.of hsl2⟩, fun D nD => ?_⟩
      have nslD : sl ≠ D := ne_of_none hsl2 nD
      refine lc_list (K := K) (a := sl) (xs := vs) (fun j H' => ∃ ws, H' = upd H3 D (.lst ws) ∧ ws.length = cntS (l.take j) sk.1 z) ⟨[], rfl, rfl⟩ (fun j H' _ ⟨ws, e, _⟩ => by rw [e]; exact SqL.of ((upd_ne nslD).trans hsl2)) ?_ ?_
      · rintro j v H' hj ⟨ws, rfl, hws⟩
        have lt : j < l.length := by rw [← vlen]; exact (List.getElem?_eq_some_iff.mp hj).1
        have ej := List.getElem?_eq_getElem lt
        obtain ⟨v', hv', u, ev, hu'⟩ := Paired.get? (i := j) hvs2 ej
        obtain rfl : v' = v := Option.some.inj (hv'.symm.trans hj)
        subst ev
        generalize l[j] = sj at ej hu'
        have nuD : u ≠ D := ne_of_none hu' nD
        have hwl : ws.length < sizeLine := by
          rw [hws]
          exact small1000 (Nat.le_trans (List.length_filter_le _ _) (by rw [List.length_take]; omega))
        have etk : cntS (l.take (j + 1)) sk.1 z = cntS (l.take j) sk.1 z + (if sj.2 + sk.1 ≤ z then 1 else 0) := by
          unfold cntS
          rw [List.take_add_one, ej, Option.toList_some, List.filter_append, List.length_append]
          congr 1
          by_cases cc : sj.2 + sk.1 ≤ z
          · rw [if_pos cc, List.filter_cons_of_pos (by exact decide_eq_true cc)]
            rfl
          · rw [if_neg cc, List.filter_cons_of_neg (by rw [decide_eq_false cc]; exact Bool.false_ne_true)]
            rfl
        refine ⟨rfl, _, rfl, u, _, 1, _, rfl, rfl, SqT.of ((upd_ne nuD).trans hu'), atI_nat (j := 1) rfl, _, rfl, _, _, rfl, rfl, _, rfl, _, _, rfl, rfl, _, rfl, ite2 (fun e => ?_) (fun e => ?_)⟩
        · have es : sj.2 + sk.1 ≤ z := by
            have w1 := of_decide_eq_true e
            omega
          refine ⟨_, rfl, ws, upd_same, hwl, ws ++ [.ref u], by rw [upd_upd], ?_⟩
          rw [etk, if_pos es, List.length_append, hws]
          rfl
        · have es : ¬ sj.2 + sk.1 ≤ z := fun w => e (decide_eq_true (by omega))
          refine ⟨ws, rfl, ?_⟩
          rw [etk, if_neg es]
          exact hws
      · rintro H' ⟨ws, rfl, hws⟩
        rw [vlen, List.take_of_length_le (Nat.le_refl _), hc] at hws
        have s5 := same_upd (o := HO.lst ws) nD
        obtain ⟨vc, hvc, uc, rfl, huc⟩ := Paired.get? (i := c) hvs2 hs0
        have ec : (((ws.length : Nat) : Int) - 1) = ((c : Nat) : Int) := by
          rw [hws]
          omega
        refine ⟨D, _, rfl, .inl (SqL.of upd_same), _, _, rfl, rfl, ?_⟩
        simp only [ec]
        refine ⟨_, rfl, _, rfl, sl, _, _, _, rfl, rfl, SqL.of (s5 _ _ hsl2), atI_nat hvc, uc, _, 0, _, rfl, rfl, SqT.of (s5 _ _ huc), atI_nat (j := 0) rfl, _, rfl, _, rfl, sl, _, _, _, rfl, rfl, SqL.of (s5 _ _ hsl2), atI_nat hvc, uc, _, 1, _, rfl, rfl, SqT.of (s5 _ _ huc), atI_nat (j := 1) rfl, _, rfl, _, _, rfl, rfl, _, rfl, _, rfl, _, _, rfl, rfl, (by show 3 ≤ sizeLine; decide), fun r2 nr2 => ?_⟩
        refine q _ r2 _ _ (sH2.trans (s5.trans (same_upd nr2))) hla ?_
        rw [upd_same]
        show some (HO.tup [V.int s0.1, V.int (((s0.2 : Nat) : Int) + ((sk.1 : Nat) : Int)), V.int (((c : Nat) : Int) + ((sk.2 : Nat) : Int))]) = some (HO.tup [V.int s0.1, V.int ((s0.2 + sk.1 : Nat) : Int), V.int ((c + sk.2 : Nat) : Int)])
        rw [Int.natCast_add, Int.natCast_add]
end
/-! ### where a letter is -/
theorem stp_house {p h : Nat} {os : List Od} {st : Nat × Nat} (ok : NetOk p h os) (hh : st.1 < h) : ∀ (i : Nat) {s : Nat × Nat}, stp p os i st = some s → s.1 < h
  | 0, s, e => by
    rw [← Option.some.inj (show some st = some s from e)]
    exact hh
  | i + 1, s, e => by
    have e' : (stp p os i st).bind (hop p os) = some s := e
    cases q : stp p os i st with
    | none =>
      rw [q] at e'
      cases e'
    | some c =>
      rw [q] at e'
      exact hop_house ok e'
def whV (p : Nat) (os : List Od) (z : Nat) (c : Nat × Nat) : List V := match hop p os c with
  | none => [.str "delivered", .int c.1]
  | some s => if c.2 = z then [.str "house", .int c.1] else [.str "way", .int c.1, .int s.1, .int ((s.2 : Int) - (z : Int))]
def hopN (p : Nat) (os : List Od) (c : Nat × Nat) (j : Nat) : Nat := match hop p os c with
  | none => j
  | some _ => j + 1
def spWhere (C : Addr) : Sp := fun vs H Q _ => ∃ (x t : Addr) (p h hs dy z : Nat) (os : List Od) (F : List Addr), vs = [.ref x, .int hs, .int dy, .int z] ∧ NetAt C H x p h os t F ∧ NetOk p h os ∧ hs < h ∧ dy ≤ 1000000000000000000 ∧ z ≤ 1000000000000000000 ∧
  ∀ H' v, Same H H' → (z < dy → v = .non) → (dy ≤ z → ∃ u c j, v = .ref u ∧ LastAt p os (hs, dy) z c j ∧ H' u = some (.tup (whV p os z c))) → Q v H'
def spCount (C : Addr) : Sp := fun vs H Q _ => ∃ (x t : Addr) (p h hs dy z : Nat) (os : List Od) (F : List Addr), vs = [.ref x, .int hs, .int dy, .int z] ∧ NetAt C H x p h os t F ∧ NetOk p h os ∧ hs < h ∧ dy ≤ 1000000000000000000 ∧ z ≤ 1000000000000000000 ∧
  ∀ H' (n : Nat), Same H H' → (z < dy → n = 0) → (dy ≤ z → ∃ c j, LastAt p os (hs, dy) z c j ∧ n = hopN p os c j) → Q (.int n) H'
abbrev s_count_hops : Stmt := top 17
abbrev N_count_hops : List Str := ["net", "house", "day", "later", "source", "start", "hops"]
abbrev P_count_hops : List Str := ["net", "house", "day", "later"]
theorem sc_count_hops : FnScope N_count_hops P_count_hops (defScope s_count_hops) := ⟨rfl, rfl, rfl, by decide +kernel, rfl, by decide +kernel, by decide +kernel⟩
section
variable {P : Program} {w : World} {K : PySem.W.Frag} {mg : Str → Option Value} {base : Heap}
theorem ok_count {f C fS : Addr} {fd fdS : FuncData} (F : Fun K "count_hops" "count_hops" s_count_hops f fd) (T : NetT K C) (DL : Df P w K mg base "check_letter" 4 P_check_letter (spLetter C)) (DD : Df P w K mg base "check_day" 3 P_check_day spDay)
    (DS : Df P w K mg base "last_stop" 8 P_last_stop (spLast C)) (GS : FnOk P w K mg base CX0 2 fS fdS P_Net_stop_after (spStop C)) (mS : Meth K C "stop_after" fS) (bS : Binds K fdS P_Net_stop_after []) : FnOk P w K mg base CX0 9 f fd P_count_hops (spCount C) := by
  obtain ⟨fL, fdL, gL, kL, bL, GL⟩ := DL
  obtain ⟨fD, fdD, gD, kD, bD, GD⟩ := DD
  obtain ⟨fT, fdT, gT, kT, bT, GT⟩ := DS
  refine F.ok sc_count_hops (fun vs H Q E h => ?_) (fun cdv A outer s H vs Q E hr h => ?_)
  · obtain ⟨x, t, p, h, hs, dy, z, os, F, rfl, _⟩ := h
    rfl
  · obtain ⟨x, t, p, h, hs, dy, z, os, F, rfl, N, ok, hh, hd, hz, q⟩ := h
    have hr1 : Room 2 _ := hr.mono (by decide)
    have hr2 : Room 3 _ := hr.mono (by decide)
    have hr3 : Room 4 _ := hr.mono (by decide)
    refine ⟨_, pss_cons (ps_expr (pe_call GL hr3 (by rfl) gL kL bL .nil pass0 (pa_cons (pv 0) (pa_cons (pv 1) (pa_cons (pv 2) pa_nil)))))
      (pss_cons (ps_expr (pe_call GD hr2 (by rfl) gD kD bD .nil pass0 (pa_cons (pv 3) pa_nil)))
      (pss_cons (ps_if (pt_cmpR op_lt (pv 3) (pv 2) (nomark _)) (pss_one (ps_ret pe_int)) pss_nil)
      (pss_cons (ps_asg (pe_call GT hr (by rfl) gT kT bT .nil pass0 (pa_cons (pv 0) (pa_cons (pv 1) (pa_cons (pv 2) (pa_cons (pv 3) pa_nil))))) (pg_tup (by rfl) (pgs_cons (pg_name (i := 4) sc_count_hops.nd rfl (.inl rfl)) (pgs_cons (pg_name (i := 5) sc_count_hops.nd rfl (.inl rfl)) (pgs_cons (pg_name (i := 6) sc_count_hops.nd rfl (.inl rfl)) pgs_nil)))))
      (pss_cons (ps_if (pt_cmpR op_isN (pe_meth (pv 0) T.cl mS GS hr1 bS .nil pass0 (pa_cons (pv 4) (pa_cons (pv 5) pa_nil))) pe_non (nomark _)) (pss_one (ps_ret (pv 6))) pss_nil)
      (pss_one (ps_ret (pe_op op_add (pv 6) pe_int))))))), ?_⟩
    have hp : 0 < p := ok.p1
    refine ⟨_, rfl, _, rfl, _, rfl, x, t, p, h, hs, dy, os, F, rfl, N, hh, hd, _, rfl, z, rfl, hz, _, rfl, _, rfl, _, _, rfl, rfl, _, rfl, ite2 (fun e => ?_) (fun e => ?_)⟩
    · have lt : z < dy := by
        have := of_decide_eq_true e
        omega
      exact q H 0 (.refl H) (fun _ => rfl) fun w => by omega
    · have le : dy ≤ z := Nat.le_of_not_lt fun w => e (decide_eq_true (by omega))
      refine ⟨_, rfl, _, rfl, _, rfl, _, rfl, x, t, p, h, hs, dy, z, os, F, rfl, N, ok, hh, hd, le, hz, fun H1 r c j s1 hla hr1' => ?_⟩
      refine ⟨r, _, rfl, SqT.of hr1', rfl, _, _, rfl, _, _, rfl, _, _, rfl, rfl, ?_⟩
      have N1 := N.same s1
      have hc := stp_house ok hh j hla.1
      obtain ⟨dx, fl, as, e0, hx, rest⟩ := id N1
      refine ⟨_, rfl, x, dx, _, rfl, hx, nf_no (by decide +kernel) (by decide +kernel) (by decide +kernel) (by decide +kernel), _, rfl, _, rfl, ?_⟩
      refine ⟨x, t, p, h, c.1, c.2, os, F, rfl, N1, hp, hc, fun H2 v s2 hv => ?_⟩
      have s12 := s1.trans s2
      have ecc : (c.1, c.2) = c := rfl
      cases hq : hop p os c with
      | none =>
        rw [ecc, hq] at hv
        obtain rfl : v = .non := hv
        refine ⟨rfl, _, rfl, iteT ⟨_, rfl, ?_⟩⟩
        refine q _ j s12 (fun w => by omega) fun _ => ⟨c, j, hla, ?_⟩
        unfold hopN
        rw [hq]
      | some s =>
        rw [ecc, hq] at hv
        obtain ⟨u1, rfl, _, hu1⟩ := hv
        refine ⟨rfl, _, rfl, iteF ⟨_, rfl, _, _, rfl, rfl, ?_⟩⟩
        refine q _ (j + 1) s12 (fun w => by omega) fun _ => ⟨c, j, hla, ?_⟩
        unfold hopN
        rw [hq]
end
/-! ### loops: plain mathematics -/
theorem plc_shf {p k : Nat} (s : Nat × Nat) : plc p (shf (p * k) s) = plc p s := by
  unfold plc shf
  rw [Nat.add_mul_mod_self_left]
theorem plc_plc {p : Nat} (s : Nat × Nat) : plc p (plc p s) = plc p s := by
  unfold plc
  rw [Nat.mod_mod]
theorem shf_plc {p : Nat} (s : Nat × Nat) : s = shf (p * (s.2 / p)) (plc p s) := by
  obtain ⟨a, d⟩ := s
  show (a, d) = (a, d % p + p * (d / p))
  rw [Nat.add_comm, Nat.div_add_mod]
/-- a letter's place behind i hops -/
def pst (p : Nat) (os : List Od) (i : Nat) (q : Nat × Nat) : Option (Nat × Nat) := (stp p os i q).map (plc p)
theorem pst_shf {p i k : Nat} {os : List Od} (s : Nat × Nat) : pst p os i (shf (p * k) s) = pst p os i s := by
  unfold pst
  rw [stp_shf, Option.map_map]
  congr 1
  funext t
  exact plc_shf t
theorem pst_plc {p i : Nat} {os : List Od} (s : Nat × Nat) : pst p os i (plc p s) = pst p os i s := by
  conv => rhs; rw [shf_plc (p := p) s]
  rw [pst_shf]
theorem pst_add {p i j : Nat} {os : List Od} (s : Nat × Nat) : pst p os (i + j) s = (pst p os i s).bind (pst p os j) := by
  unfold pst
  rw [stp_add]
  cases stp p os i s with
  | none => rfl
  | some c => exact (pst_plc c).symm
theorem pst_zero {p : Nat} {os : List Od} (s : Nat × Nat) : pst p os 0 s = some (plc p s) := rfl
/-- l is a loop: the places that f goes through, again and again -/
structure CycF (p : Nat) (os : List Od) (l : List (Nat × Nat)) (f : Nat → Nat × Nat) (n : Nat) : Prop where
  n0 : 0 < n
  eq : l = (List.range n).map f
  nd : l.Nodup
  nx : ∀ i, pst p os 1 (f i) = some (f (i + 1))
  per : ∀ i, f (i + n) = f i
def Cyc (p : Nat) (os : List Od) (l : List (Nat × Nat)) : Prop := ∃ f n, CycF p os l f n
section
variable {p : Nat} {os : List Od} {l l' : List (Nat × Nat)} {f g : Nat → Nat × Nat} {n m : Nat}
theorem CycF.len (c : CycF p os l f n) : l.length = n := by rw [c.eq, List.length_map, List.length_range]
theorem CycF.get (c : CycF p os l f n) {i : Nat} (h : i < n) : l[i]? = some (f i) := by rw [c.eq, List.getElem?_map, List.getElem?_range h]; rfl
theorem CycF.perk (c : CycF p os l f n) (i : Nat) : ∀ k, f (i + n * k) = f i
  | 0 => rfl
  | k + 1 => by
    rw [Nat.mul_succ, ← Nat.add_assoc, c.per]
    exact c.perk i k
theorem CycF.mod (c : CycF p os l f n) (i : Nat) : f (i % n) = f i := by
  have h := c.perk (i % n) (i / n)
  rw [Nat.mod_add_div] at h
  exact h.symm
theorem CycF.mem (c : CycF p os l f n) {x : Nat × Nat} : x ∈ l ↔ ∃ i, x = f i := by
  rw [c.eq, List.mem_map]
  constructor
  · rintro ⟨i, _, rfl⟩
    exact ⟨i, rfl⟩
  · rintro ⟨i, rfl⟩
    exact ⟨i % n, List.mem_range.mpr (Nat.mod_lt _ c.n0), c.mod i⟩
theorem CycF.inj (c : CycF p os l f n) {i j : Nat} (hi : i < n) (hj : j < n) (e : f i = f j) : i = j := by
  have a := c.get hi
  have b := c.get hj
  rw [← e] at b
  exact (List.getElem?_inj (by rw [c.len]; exact hi) c.nd).mp (a.trans b.symm)
theorem CycF.place (c : CycF p os l f n) (i : Nat) : plc p (f i) = f i := by
  have h := c.nx (i + (n - 1))
  have n0 := c.n0
  rw [show i + (n - 1) + 1 = i + n by omega, c.per] at h
  unfold pst at h
  obtain ⟨t, _, e⟩ := Option.map_eq_some_iff.mp h
  rw [← e]
  exact plc_plc t
theorem CycF.steps (c : CycF p os l f n) (i : Nat) : ∀ k, pst p os k (f i) = some (f (i + k))
  | 0 => by rw [pst_zero, c.place]; rfl
  | k + 1 => by
    rw [pst_add, c.steps i k]
    exact c.nx (i + k)
/-- the rest of both, from a shared place -/
theorem CycF.along (c : CycF p os l f n) (d : CycF p os l' g m) {i j : Nat} (e : f i = g j) (k : Nat) : f (i + k) = g (j + k) := by
  have a := c.steps i k
  rw [e, d.steps j k] at a
  exact (Option.some.inj a).symm
theorem CycF.le_of (c : CycF p os l f n) (d : CycF p os l' g m) {i j : Nat} (e : f i = g j) : n ≤ m := by
  refine Nat.le_of_not_lt fun lt => ?_
  have h := c.along d e m
  rw [d.per, ← e, ← c.mod (i + m), ← c.mod i] at h
  have n0 := c.n0
  have m0 := d.n0
  have := c.inj (Nat.mod_lt _ n0) (Nat.mod_lt _ n0) h
  have e2 : (i + m) % n = (i % n + m) % n := by rw [Nat.mod_add_mod]
  rw [e2] at this
  have hi := Nat.mod_lt i n0
  by_cases z : i % n + m < n
  · rw [Nat.mod_eq_of_lt z] at this
    omega
  · rw [Nat.mod_eq_sub_mod (by omega), Nat.mod_eq_of_lt (by omega)] at this
    omega
theorem CycF.same_len (c : CycF p os l f n) (d : CycF p os l' g m) {i j : Nat} (e : f i = g j) : n = m := Nat.le_antisymm (c.le_of d e) (d.le_of c e.symm)
theorem CycF.sub (c : CycF p os l f n) (d : CycF p os l' g m) {i j : Nat} (e : f i = g j) {x : Nat × Nat} (hx : x ∈ l) : x ∈ l' := by
  obtain ⟨k, rfl⟩ := c.mem.mp hx
  have h := c.along d e (k + (n * (i + 1) - i))
  have n0 := c.n0
  have hge : i ≤ n * (i + 1) := Nat.le_trans (Nat.le_succ i) (Nat.le_mul_of_pos_left _ n0)
  rw [show i + (k + (n * (i + 1) - i)) = k + n * (i + 1) by omega, c.perk] at h
  rw [h]
  exact d.mem.mpr ⟨_, rfl⟩
theorem CycF.eq_of_head (c : CycF p os l f n) (d : CycF p os l' g m) (e : f 0 = g 0) : l = l' := by
  obtain rfl := c.same_len d e
  rw [c.eq, d.eq]
  refine List.map_congr_left fun i _ => ?_
  have := c.along d e i
  rw [Nat.zero_add] at this
  exact this
theorem CycF.turn (c : CycF p os l f n) : CycF p os (l.drop 1 ++ l.take 1) (fun i => f (i + 1)) n := by
  have n0 := c.n0
  have hl : l.drop 1 ++ l.take 1 = (List.range n).map fun i => f (i + 1) := by
    obtain ⟨k, rfl⟩ : ∃ k, n = k + 1 := ⟨n - 1, by omega⟩
    have e1 : l = f 0 :: (List.range k).map fun i => f (i + 1) := by
      rw [c.eq, List.range_succ_eq_map, List.map_cons, List.map_map]
      rfl
    rw [e1, List.range_succ, List.map_append]
    show (List.range k).map _ ++ [f 0] = _
    have := c.per 0
    rw [Nat.zero_add] at this
    rw [← this]
    rfl
  refine ⟨n0, hl, ?_, fun i => c.nx (i + 1), fun i => ?_⟩
  · refine List.Perm.nodup (l := l) ?_ c.nd
    have h := List.perm_append_comm (l₁ := l.take 1) (l₂ := l.drop 1)
    rw [List.take_append_drop] at h
    exact h
  · show f (i + n + 1) = f (i + 1)
    rw [show i + n + 1 = (i + 1) + n by omega, c.per]
end
/-- stops, one before the other -/
def ltS (s t : Nat × Nat) : Bool := if s.1 = t.1 then decide (s.2 < t.2) else decide (s.1 < t.1)
theorem ltS_iff {s t : Nat × Nat} : ltS s t = true ↔ s.1 < t.1 ∨ (s.1 = t.1 ∧ s.2 < t.2) := by
  unfold ltS
  split
  · rename_i h
    rw [decide_eq_true_iff]
    omega
  · rename_i h
    rw [decide_eq_true_iff]
    omega
theorem ltS_no {s t : Nat × Nat} : ltS s t = false ↔ ¬ (s.1 < t.1 ∨ (s.1 = t.1 ∧ s.2 < t.2)) := by
  rw [← ltS_iff]
  cases ltS s t <;> simp
theorem ltS_anti {s t : Nat × Nat} (h1 : ltS s t = false) (h2 : ltS t s = false) : s = t := by
  have a := ltS_no.mp h1
  have b := ltS_no.mp h2
  exact Prod.ext (by omega) (by omega)
theorem ltS_trans {s t u : Nat × Nat} (h1 : ltS s t = true) (h2 : ltS t u = true) : ltS s u = true := by
  have a := ltS_iff.mp h1
  have b := ltS_iff.mp h2
  exact ltS_iff.mpr (by omega)
/-- the least stop -/
def minS (x : Nat × Nat) (xs : List (Nat × Nat)) : Nat × Nat := xs.foldl (fun a y => if ltS y a then y else a) x
theorem minS_spec : ∀ (xs : List (Nat × Nat)) (x : Nat × Nat), minS x xs ∈ x :: xs ∧ ∀ y ∈ x :: xs, ltS y (minS x xs) = false
  | [], x => ⟨List.mem_cons_self, fun y hy => by
      rw [List.mem_singleton.mp hy]
      exact ltS_no.mpr (by show ¬ (x.1 < x.1 ∨ (x.1 = x.1 ∧ x.2 < x.2)); omega)⟩
  | z :: r, x => by
    show minS (if ltS z x then z else x) r ∈ _ ∧ ∀ y ∈ _, ltS y (minS (if ltS z x then z else x) r) = false
    obtain ⟨h1, h2⟩ := minS_spec r (if ltS z x then z else x)
    generalize hw : (if ltS z x then z else x) = w at h1 h2
    have hwm : w = z ∨ w = x := by
      rw [← hw]
      split
      · exact .inl rfl
      · exact .inr rfl
    have hwl : ltS z w = false ∧ ltS x w = false := by
      by_cases c : ltS z x = true
      · rw [if_pos c] at hw
        subst hw
        have := ltS_iff.mp c
        exact ⟨ltS_no.mpr (by omega), ltS_no.mpr (by omega)⟩
      · rw [if_neg c] at hw
        subst hw
        exact ⟨Bool.eq_false_iff.mpr c, ltS_no.mpr (by omega)⟩
    refine ⟨?_, fun y hy => ?_⟩
    · rcases List.mem_cons.mp h1 with e | e
      · rw [e]
        rcases hwm with e | e <;> rw [e] <;> simp
      · exact List.mem_cons_of_mem _ (List.mem_cons_of_mem _ e)
    · have key : ∀ u, ltS u w = false → ltS u (minS w r) = false := fun u hu => by
        have a := ltS_no.mp hu
        have b := ltS_no.mp (h2 w List.mem_cons_self)
        exact ltS_no.mpr (by omega)
      rcases List.mem_cons.mp hy with e | e
      · rw [e]
        exact key x hwl.2
      · rcases List.mem_cons.mp e with e | e
        · rw [e]
          exact key z hwl.1
        · exact h2 y (List.mem_cons_of_mem _ e)
/-- a list that begins with its least stop -/
def hm : List (Nat × Nat) → Bool
  | [] => false
  | x :: xs => decide (x = minS x xs)
theorem hm_iff {x : Nat × Nat} {xs : List (Nat × Nat)} : hm (x :: xs) = true ↔ ∀ y ∈ x :: xs, ltS y x = false := by
  unfold hm
  rw [decide_eq_true_iff]
  obtain ⟨h1, h2⟩ := minS_spec xs x
  constructor
  · intro e
    rw [← e] at h2
    exact h2
  · intro h
    exact ltS_anti (h2 x List.mem_cons_self) (h _ h1)
section
variable {p : Nat} {os : List Od} {l l' : List (Nat × Nat)}
theorem Cyc.cons (c : Cyc p os l) : ∃ x xs, l = x :: xs := by
  obtain ⟨f, n, c⟩ := c
  cases l with
  | nil =>
    have a := c.len
    have b := c.n0
    simp at a
    omega
  | cons x xs => exact ⟨x, xs, rfl⟩
/-- loops that share a stop and begin with their least are the same -/
theorem Cyc.uniq (c : Cyc p os l) (d : Cyc p os l') (h : hm l = true) (h' : hm l' = true) {x : Nat × Nat} (hx : x ∈ l) (hx' : x ∈ l') : l = l' := by
  obtain ⟨f, n, c⟩ := c
  obtain ⟨g, m, d⟩ := d
  obtain ⟨i, rfl⟩ := c.mem.mp hx
  obtain ⟨j, e⟩ := d.mem.mp hx'
  have hf : l[0]? = some (f 0) := c.get c.n0
  have hg : l'[0]? = some (g 0) := d.get d.n0
  have m1 : f 0 ∈ l' := c.sub d e (List.mem_of_getElem? hf)
  have m2 : g 0 ∈ l := d.sub c e.symm (List.mem_of_getElem? hg)
  refine c.eq_of_head d ?_
  cases l with
  | nil => cases hf
  | cons x xs =>
    cases l' with
    | nil => cases hg
    | cons y ys =>
      obtain rfl : x = f 0 := Option.some.inj hf
      obtain rfl : y = g 0 := Option.some.inj hg
      exact ltS_anti (hm_iff.mp h' _ m1) (hm_iff.mp h _ m2)
theorem Cyc.turn (c : Cyc p os l) : Cyc p os (l.drop 1 ++ l.take 1) := by
  obtain ⟨f, n, c⟩ := c
  exact ⟨_, _, c.turn⟩
theorem turn_mem {x : Nat × Nat} : x ∈ l.drop 1 ++ l.take 1 ↔ x ∈ l := by
  have h := List.perm_append_comm (l₁ := l.take 1) (l₂ := l.drop 1)
  rw [List.take_append_drop] at h
  exact h.mem_iff.symm
end
/-! ### the loops of a net: plain mathematics -/
theorem pst_house {p h : Nat} {os : List Od} {st : Nat × Nat} (ok : NetOk p h os) (hh : st.1 < h) : ∀ (i : Nat) {s : Nat × Nat}, stp p os i st = some s → s.1 < h
  | 0, s, e => by
    cases e
    exact hh
  | i + 1, s, e => by
    obtain ⟨c, hc, e⟩ := Option.bind_eq_some_iff.mp (show (stp p os i st).bind (hop p os) = some s from e)
    exact hop_house ok e
theorem pst_get {p i : Nat} {os : List Od} {st s : Nat × Nat} (e : stp p os i st = some s) : pst p os i st = some (plc p s) := by
  unfold pst
  rw [e]
  rfl
theorem pst_next {p i : Nat} {os : List Od} {st s t : Nat × Nat} (e : stp p os i st = some s) (e2 : stp p os (i + 1) st = some t) : pst p os 1 (plc p s) = some (plc p t) := by
  have h := pst_add (p := p) (os := os) (i := i) (j := 1) st
  rw [pst_get e, pst_get e2] at h
  exact h.symm
/-- what a letter that chases goes through again and again, from where it comes back to -/
def rawOf (p h : Nat) (os : List Od) (q : Nat × Nat) : Option (List (Nat × Nat)) := match (folR p h os q).2 with
  | none => none
  | some b => some (((folR p h os q).1.dropLast.drop b).map (plc p))
/-- the loop of a letter that comes back to its first stop -/
def lpOf (p h : Nat) (os : List Od) (q : Nat × Nat) : Option (List (Nat × Nat)) := match (folR p h os q).2 with
  | some 0 => some ((folR p h os q).1.dropLast.map (plc p))
  | _ => none
theorem raw_cycF {p h : Nat} {os : List Od} {q : Nat × Nat} {l : List (Nat × Nat)} (ok : NetOk p h os) (hh : q.1 < h) (e : rawOf p h os q = some l) : Cyc p os l ∧ (∀ x ∈ l, x.1 < h) ∧
    ∃ m s b, folR p h os q = (m ++ [s], some b) ∧ l = (m.drop b).map (plc p) ∧ plc p s ∈ l ∧ b < m.length ∧ ∀ x xs, l = x :: xs → ∃ t, m[b]? = some t ∧ x = plc p t := by
  rcases folR_cases ok hh with ⟨l', e', _⟩ | ⟨m, s, b, t, k, e', hl, hb, hs, hk, nd⟩
  · unfold rawOf at e
    rw [e'] at e
    cases e
  · unfold rawOf at e
    rw [e'] at e
    simp only [List.dropLast_concat] at e
    obtain rfl := Option.some.inj e
    have hbl : b < m.length := (List.getElem?_eq_some_iff.mp hb).1
    have hget : ∀ i, i < m.length → ∃ c, m[i]? = some c ∧ stp p os i q = some c := fun i hi => by
      have a := hl i (Nat.le_of_lt hi)
      rw [List.getElem?_append_left hi] at a
      exact ⟨m[i], List.getElem?_eq_getElem hi, a.symm.trans (List.getElem?_eq_getElem hi)⟩
    have hgs : stp p os m.length q = some s := by
      have a := hl m.length (Nat.le_refl _)
      rw [List.getElem?_append_right (Nat.le_refl _), Nat.sub_self] at a
      exact a.symm
    have hst : plc p s = plc p t := by rw [hs, plc_shf]
    have n0 : 0 < m.length - b := by omega
    let f : Nat → Nat × Nat := fun i => plc p (m.getD (b + i % (m.length - b)) (0, 0))
    have hf : ∀ i, i < m.length - b → ∃ c, m[b + i]? = some c ∧ stp p os (b + i) q = some c ∧ f i = plc p c := fun i hi => by
      obtain ⟨c, h1, h2⟩ := hget (b + i) (by omega)
      refine ⟨c, h1, h2, ?_⟩
      show plc p (m.getD (b + i % (m.length - b)) (0, 0)) = _
      rw [Nat.mod_eq_of_lt hi, List.getD_eq_getElem?_getD, h1]
      rfl
    have per : ∀ i, f (i + (m.length - b)) = f i := fun i => by
      show plc p (m.getD (b + (i + (m.length - b)) % (m.length - b)) (0, 0)) = _
      rw [Nat.add_mod_right]
    have modf : ∀ i, f (i % (m.length - b)) = f i := fun i => by
      show plc p (m.getD (b + (i % (m.length - b)) % (m.length - b)) (0, 0)) = _
      rw [Nat.mod_mod]
    have eql : (m.drop b).map (plc p) = (List.range (m.length - b)).map f := by
      refine List.ext_getElem? fun i => ?_
      rw [List.getElem?_map, List.getElem?_drop, List.getElem?_map]
      by_cases hi : i < m.length - b
      · obtain ⟨c, h1, _, h3⟩ := hf i hi
        rw [h1, List.getElem?_range hi]
        show some (plc p c) = some (f i)
        rw [h3]
      · rw [List.getElem?_eq_none (by omega), List.getElem?_eq_none (by rw [List.length_range]; omega)]
        rfl
    have nx : ∀ i, pst p os 1 (f i) = some (f (i + 1)) := fun i => by
      have hi := Nat.mod_lt i n0
      obtain ⟨c, h1, h2, h3⟩ := hf _ hi
      rw [← modf i, h3]
      by_cases z : i % (m.length - b) + 1 < m.length - b
      · obtain ⟨c', _, g2, g3⟩ := hf _ z
        have e1 : f (i + 1) = f (i % (m.length - b) + 1) := by rw [← modf (i + 1), ← modf (i % (m.length - b) + 1), Nat.mod_add_mod]
        rw [e1, g3]
        exact pst_next h2 g2
      · have e1 : f (i + 1) = f 0 := by
          rw [← modf (i + 1), ← Nat.mod_add_mod, show i % (m.length - b) + 1 = m.length - b by omega, Nat.mod_self]
        obtain ⟨c', k1, _, k3⟩ := hf 0 n0
        rw [Nat.add_zero] at k1
        obtain rfl : t = c' := Option.some.inj (hb.symm.trans k1)
        rw [e1, k3, ← hst]
        refine pst_next h2 ?_
        rw [show b + i % (m.length - b) + 1 = m.length by omega]
        exact hgs
    have nd2 : ((m.drop b).map (plc p)).Nodup := by
      rw [List.map_drop]
      exact nd.sublist (List.drop_sublist _ _)
    refine ⟨⟨f, _, n0, eql, nd2, nx, per⟩, fun x hx => ?_, m, s, b, e', rfl, ?_, hbl, fun x xs ex => ?_⟩
    · obtain ⟨c, hc, rfl⟩ := List.mem_map.mp hx
      obtain ⟨i, hi⟩ := List.getElem?_of_mem (List.mem_of_mem_drop hc)
      obtain ⟨c', k1, k2⟩ := hget i (List.getElem?_eq_some_iff.mp hi).1
      obtain rfl : c' = c := Option.some.inj (k1.symm.trans hi)
      exact (show c'.1 < h from pst_house ok hh i k2)
    · rw [hst]
      refine List.mem_map.mpr ⟨t, List.mem_of_getElem? (i := 0) ?_, rfl⟩
      rw [List.getElem?_drop]
      exact hb
    · have h0 : ((m.drop b).map (plc p))[0]? = some x := by rw [ex]; rfl
      rw [List.getElem?_map, List.getElem?_drop, Nat.add_zero, hb] at h0
      exact ⟨t, hb, (Option.some.inj h0).symm⟩
theorem lp_raw {p h : Nat} {os : List Od} {q : Nat × Nat} {l : List (Nat × Nat)} (e : lpOf p h os q = some l) : rawOf p h os q = some l := by
  unfold lpOf at e
  unfold rawOf
  split at e
  · rename_i h2
    rw [h2]
    exact e
  · cases e
theorem lp_cyc {p h : Nat} {os : List Od} {q : Nat × Nat} {l : List (Nat × Nat)} (ok : NetOk p h os) (hh : q.1 < h) (e : lpOf p h os q = some l) : Cyc p os l ∧ (∀ x ∈ l, x.1 < h) ∧ ∃ xs, l = plc p q :: xs := by
  obtain ⟨c, hx, m, s, b, e1, e2, _, hb, hd⟩ := raw_cycF ok hh (lp_raw e)
  refine ⟨c, hx, ?_⟩
  obtain ⟨x, xs, rfl⟩ := c.cons
  refine ⟨xs, ?_⟩
  obtain ⟨t, ht, rfl⟩ := hd x xs rfl
  unfold lpOf at e
  rw [e1] at e
  have b0 : b = 0 := by
    cases b with
    | zero => rfl
    | succ n => cases e
  subst b0
  have : (way p os (h * p + 1) q)[0]? = some q := by
    rw [show way p os (h * p + 1) q = rest p os (h * p + 1) (some q) from rfl, rest_succ]
    rfl
  rcases folR_cases ok hh with ⟨l', e', _⟩ | ⟨m', s', b', t', k, e', hl, _⟩
  · rw [e1] at e'
    cases e'
  · rw [e1] at e'
    have e5 := (Prod.mk.inj e').1
    have h0 := hl 0 (Nat.zero_le _)
    rw [← e5, List.getElem?_append_left hb, ht] at h0
    obtain rfl : t = q := Option.some.inj h0
    rfl
/-- a letter that is posted on a loop comes back to its first stop -/
theorem cyc_lp {p h n : Nat} {os : List Od} {l : List (Nat × Nat)} {f : Nat → Nat × Nat} (ok : NetOk p h os) (c : CycF p os l f n) (hq : (f 0).1 < h) : lpOf p h os (f 0) = some l ∧ (folR p h os (f 0)).2 = some 0 := by
  have st : ∀ i, ∃ s, stp p os i (f 0) = some s ∧ plc p s = f i := fun i => by
    have h1 := c.steps 0 i
    rw [Nat.zero_add] at h1
    exact Option.map_eq_some_iff.mp h1
  rcases folR_cases ok hq with ⟨l', _, _, hl, _⟩ | ⟨m, s, b, t, k, e', hl, hb, hs, hk, nd⟩
  · obtain ⟨s, h1, _⟩ := st l'.length
    rw [← hl, List.getElem?_eq_none (Nat.le_refl _)] at h1
    cases h1
  · have hbl : b < m.length := (List.getElem?_eq_some_iff.mp hb).1
    have n0 := c.n0
    have hmf : m.map (plc p) = (List.range m.length).map f := by
      refine List.ext_getElem? fun i => ?_
      rw [List.getElem?_map, List.getElem?_map]
      by_cases hi : i < m.length
      · have a := hl i (Nat.le_of_lt hi)
        rw [List.getElem?_append_left hi] at a
        obtain ⟨s', h1, h2⟩ := st i
        rw [a, h1, List.getElem?_range hi]
        show some (plc p s') = some (f i)
        rw [h2]
      · rw [List.getElem?_eq_none (by omega), List.getElem?_eq_none (by rw [List.length_range]; omega)]
        rfl
    have fs : f m.length = f b := by
      have a := hl m.length (Nat.le_refl _)
      rw [List.getElem?_append_right (Nat.le_refl _), Nat.sub_self] at a
      obtain ⟨s', h1, h2⟩ := st m.length
      have e1 : s = s' := Option.some.inj (a.trans h1)
      have a2 := hl b (Nat.le_of_lt hbl)
      rw [List.getElem?_append_left hbl, hb] at a2
      obtain ⟨t', h3, h4⟩ := st b
      have e2 : t = t' := Option.some.inj (a2.trans h3)
      rw [← h2, ← h4, ← e1, ← e2, hs, plc_shf]
    have hle : m.length ≤ n := by
      refine Nat.le_of_not_lt fun lt => ?_
      have a1 : (m.map (plc p))[n]? = some (f n) := by rw [hmf, List.getElem?_map, List.getElem?_range lt]; rfl
      have a2 : (m.map (plc p))[0]? = some (f 0) := by rw [hmf, List.getElem?_map, List.getElem?_range (by omega)]; rfl
      have p0 := c.per 0
      rw [Nat.zero_add] at p0
      rw [p0] at a1
      have := (List.getElem?_inj (by rw [List.length_map]; exact lt) nd).mp (a1.trans a2.symm)
      omega
    have hln : m.length = n := by
      refine Nat.le_antisymm hle (Nat.le_of_not_lt fun lt => ?_)
      have := c.inj lt (by omega) fs
      omega
    have b0 : b = 0 := by
      have p0 := c.per 0
      rw [Nat.zero_add, ← hln] at p0
      rw [p0] at fs
      exact (c.inj n0 (by omega) fs).symm
    subst b0
    unfold lpOf
    rw [e']
    refine ⟨?_, rfl⟩
    show some ((m ++ [s]).dropLast.map (plc p)) = _
    rw [List.dropLast_concat, hmf, hln, ← c.eq]
/-- the loop's turn that begins with its least stop -/
def canon (p h : Nat) (os : List Od) (l : List (Nat × Nat)) : List (Nat × Nat) := (lpOf p h os (minS (l.headD (0, 0)) l.tail)).getD []
theorem CycF.turns {p n : Nat} {os : List Od} {l : List (Nat × Nat)} {f : Nat → Nat × Nat} (c : CycF p os l f n) : ∀ i, ∃ l', CycF p os l' (fun j => f (i + j)) n ∧ ∀ x, x ∈ l' ↔ x ∈ l
  | 0 => ⟨l, by simpa using c, fun _ => Iff.rfl⟩
  | i + 1 => by
    obtain ⟨l', c', h'⟩ := c.turns i
    refine ⟨_, ?_, fun x => turn_mem.trans (h' x)⟩
    have := c'.turn
    have e : (fun j => f (i + (j + 1))) = fun j => f (i + 1 + j) := funext fun j => by rw [show i + (j + 1) = i + 1 + j by omega]
    rw [e] at this
    exact this
theorem canon_spec {p h : Nat} {os : List Od} {l : List (Nat × Nat)} (ok : NetOk p h os) (c : Cyc p os l) (hl : ∀ x ∈ l, x.1 < h) :
    Cyc p os (canon p h os l) ∧ hm (canon p h os l) = true ∧ (∀ x, x ∈ canon p h os l ↔ x ∈ l) ∧ ∃ q xs, canon p h os l = q :: xs ∧ lpOf p h os q = some (canon p h os l) ∧ plc p q = q ∧ q.1 < h := by
  obtain ⟨x, xs, rfl⟩ := c.cons
  obtain ⟨f, n, c⟩ := c
  obtain ⟨h1, h2⟩ := minS_spec xs x
  obtain ⟨i, ei⟩ := c.mem.mp h1
  obtain ⟨l', c', hm'⟩ := c.turns i
  have hq : (f (i + 0)).1 < h := by
    rw [Nat.add_zero, ← ei]
    exact hl _ h1
  obtain ⟨g1, _⟩ := cyc_lp ok c' hq
  have ec : canon p h os (x :: xs) = l' := by
    show (lpOf p h os (minS x xs)).getD [] = l'
    rw [ei]
    show (lpOf p h os (f i)).getD [] = l'
    rw [show f i = f (i + 0) from rfl, g1]
    rfl
  rw [ec]
  have h0 : l'[0]? = some (f (i + 0)) := c'.get c'.n0
  obtain ⟨y, ys, rfl⟩ := Cyc.cons ⟨_, _, c'⟩
  obtain rfl : y = f (i + 0) := Option.some.inj h0
  refine ⟨⟨_, _, c'⟩, hm_iff.mpr fun z hz => ?_, hm', _, _, rfl, g1, c.place _, hq⟩
  show ltS z (f i) = false
  rw [← ei]
  exact h2 z ((hm' z).mp hz)
theorem canon_eq {p h : Nat} {os : List Od} {l l' : List (Nat × Nat)} (ok : NetOk p h os) (c : Cyc p os l) (hl : ∀ x ∈ l, x.1 < h) (c' : Cyc p os l') (hm' : hm l' = true) {x : Nat × Nat} (hx : x ∈ l) (hx' : x ∈ l') : canon p h os l = l' := by
  obtain ⟨a1, a2, a3, _⟩ := canon_spec ok c hl
  exact a1.uniq c' a2 hm' ((a3 x).mpr hx) hx'
/-- all letters of a period -/
def lets (p h : Nat) : List (Nat × Nat) := (List.range h).flatMap fun a => (List.range p).map fun d => (a, d)
theorem mem_lets {p h : Nat} {q : Nat × Nat} : q ∈ lets p h ↔ q.1 < h ∧ q.2 < p := by
  unfold lets
  rw [List.mem_flatMap]
  constructor
  · rintro ⟨a, ha, hq⟩
    obtain ⟨d, hd, rfl⟩ := List.mem_map.mp hq
    exact ⟨List.mem_range.mp ha, List.mem_range.mp hd⟩
  · rintro ⟨h1, h2⟩
    exact ⟨q.1, List.mem_range.mpr h1, List.mem_map.mpr ⟨q.2, List.mem_range.mpr h2, rfl⟩⟩
theorem lets_pw {p h : Nat} : (lets p h).Pairwise fun a b => ltS a b = true := by
  unfold lets
  rw [List.pairwise_flatMap]
  refine ⟨fun a _ => ?_, ?_⟩
  · rw [List.pairwise_map]
    exact List.pairwise_lt_range.imp (R := fun x y => x < y) (S := fun d e => ltS (a, d) (a, e) = true) fun {d e} q => ltS_iff.mpr (.inr ⟨rfl, q⟩)
  · refine List.pairwise_lt_range.imp fun {a b} q => ?_
    intro x hx y hy
    obtain ⟨_, _, rfl⟩ := List.mem_map.mp hx
    obtain ⟨_, _, rfl⟩ := List.mem_map.mp hy
    exact ltS_iff.mpr (.inl q)
theorem lets_plc {p h : Nat} {q : Nat × Nat} (hq : q ∈ lets p h) : plc p q = q := by
  obtain ⟨_, h2⟩ := mem_lets.mp hq
  unfold plc
  rw [Nat.mod_eq_of_lt h2]
theorem lets_len {p h : Nat} : (lets p h).length = h * p := by
  unfold lets
  rw [List.length_flatMap]
  simp only [List.length_map, List.length_range]
  induction h with
  | zero => simp
  | succ h ih => rw [List.range_succ, List.map_append, List.sum_append, ih, Nat.succ_mul]; simp
/-- the loop that a letter's least stop begins -/
def goodL (p h : Nat) (os : List Od) (q : Nat × Nat) : Option (List (Nat × Nat)) := match lpOf p h os q with
  | some l => if hm l = true then some l else none
  | none => none
def loopsN (p h : Nat) (os : List Od) : List (List (Nat × Nat)) := (lets p h).filterMap (goodL p h os)
theorem goodL_some {p h : Nat} {os : List Od} {q : Nat × Nat} {l : List (Nat × Nat)} (e : goodL p h os q = some l) : lpOf p h os q = some l ∧ hm l = true := by
  unfold goodL at e
  split at e
  · rename_i l' e'
    split at e
    · rename_i hm'
      obtain rfl := Option.some.inj e
      exact ⟨e', hm'⟩
    · cases e
  · cases e
theorem goodL_of {p h : Nat} {os : List Od} {q : Nat × Nat} {l : List (Nat × Nat)} (e : lpOf p h os q = some l) (hm' : hm l = true) : goodL p h os q = some l := by
  unfold goodL
  rw [e]
  exact if_pos hm'
theorem mem_loopsN {p h : Nat} {os : List Od} (ok : NetOk p h os) {l : List (Nat × Nat)} : l ∈ loopsN p h os ↔ Cyc p os l ∧ hm l = true ∧ ∀ x ∈ l, x.1 < h := by
  unfold loopsN
  rw [List.mem_filterMap]
  constructor
  · rintro ⟨q, hq, e⟩
    obtain ⟨e1, e2⟩ := goodL_some e
    obtain ⟨c, hx, _⟩ := lp_cyc ok (mem_lets.mp hq).1 e1
    exact ⟨c, e2, hx⟩
  · rintro ⟨⟨f, n, c⟩, hm', hx⟩
    have h0 : f 0 ∈ l := c.mem.mpr ⟨0, rfl⟩
    have hp : (f 0).2 < p := by
      have := c.place 0
      have e : (f 0).2 % p = (f 0).2 := congrArg Prod.snd this
      rw [← e]
      exact Nat.mod_lt _ ok.p1
    exact ⟨f 0, mem_lets.mpr ⟨hx _ h0, hp⟩, goodL_of (cyc_lp ok c (hx _ h0)).1 hm'⟩
theorem loopsN_pw {p h : Nat} {os : List Od} (ok : NetOk p h os) : (loopsN p h os).Pairwise fun a b => ltS (a.headD (0, 0)) (b.headD (0, 0)) = true := by
  unfold loopsN
  rw [List.pairwise_filterMap]
  refine List.Pairwise.imp_of_mem ?_ (lets_pw (p := p) (h := h))
  intro a b ha hb q l el l' el'
  obtain ⟨_, _, xs, rfl⟩ := lp_cyc ok (mem_lets.mp ha).1 (goodL_some el).1
  obtain ⟨_, _, ys, rfl⟩ := lp_cyc ok (mem_lets.mp hb).1 (goodL_some el').1
  show ltS (plc p a) (plc p b) = true
  rw [lets_plc ha, lets_plc hb]
  exact q
theorem loopsN_nd {p h : Nat} {os : List Od} (ok : NetOk p h os) : (loopsN p h os).Nodup := (loopsN_pw ok).imp fun {a b} q e => by
  subst e
  have := ltS_iff.mp q
  omega
/-- what the law finds, letter by letter -/
def fndF (p h : Nat) (os : List Od) (acc : List (List (Nat × Nat))) (q : Nat × Nat) : List (List (Nat × Nat)) := match rawOf p h os q with
  | none => acc
  | some l => if canon p h os l ∈ acc then acc else acc ++ [canon p h os l]
def fnd (p h : Nat) (os : List Od) (qs : List (Nat × Nat)) : List (List (Nat × Nat)) := qs.foldl (fndF p h os) []
theorem fnd_snoc {p h : Nat} {os : List Od} {qs : List (Nat × Nat)} {q : Nat × Nat} : fnd p h os (qs ++ [q]) = fndF p h os (fnd p h os qs) q := by
  unfold fnd
  rw [List.foldl_append]
  rfl
theorem fndF_mem {p h : Nat} {os : List Od} {acc : List (List (Nat × Nat))} {q : Nat × Nat} {l : List (Nat × Nat)} : l ∈ fndF p h os acc q ↔ l ∈ acc ∨ ∃ r, rawOf p h os q = some r ∧ canon p h os r = l := by
  unfold fndF
  cases e : rawOf p h os q with
  | none => simp
  | some r =>
    show l ∈ (if canon p h os r ∈ acc then acc else acc ++ [canon p h os r]) ↔ _
    split
    · rename_i hm'
      constructor
      · exact .inl
      · rintro (a | ⟨r', e', rfl⟩)
        · exact a
        · cases e'
          exact hm'
    · rw [List.mem_append, List.mem_singleton]
      constructor
      · rintro (a | a)
        · exact .inl a
        · exact .inr ⟨r, rfl, a.symm⟩
      · rintro (a | ⟨r', e', a⟩)
        · exact .inl a
        · cases e'
          exact .inr a.symm
theorem fndF_nd {p h : Nat} {os : List Od} {acc : List (List (Nat × Nat))} {q : Nat × Nat} (nd : acc.Nodup) : (fndF p h os acc q).Nodup := by
  unfold fndF
  split
  · exact nd
  · rename_i r _
    split
    · exact nd
    · rename_i hno
      rw [List.nodup_append]
      refine ⟨nd, List.nodup_cons.mpr ⟨by simp, List.nodup_nil⟩, fun a ha b hb e => ?_⟩
      rw [List.mem_singleton.mp hb] at e
      exact hno (e ▸ ha)
theorem fnd_spec {p h : Nat} {os : List Od} (qs : List (Nat × Nat)) : ∀ acc : List (List (Nat × Nat)), acc.Nodup → (qs.foldl (fndF p h os) acc).Nodup ∧ ∀ l, l ∈ qs.foldl (fndF p h os) acc ↔ l ∈ acc ∨ ∃ q ∈ qs, ∃ r, rawOf p h os q = some r ∧ canon p h os r = l := by
  induction qs with
  | nil => exact fun acc nd => ⟨nd, fun l => by simp⟩
  | cons q qs ih =>
    intro acc nd
    obtain ⟨h1, h2⟩ := ih (fndF p h os acc q) (fndF_nd nd)
    refine ⟨h1, fun l => ?_⟩
    rw [List.foldl_cons, h2, fndF_mem]
    constructor
    · rintro ((a | a) | ⟨q', hq', a⟩)
      · exact .inl a
      · exact .inr ⟨q, List.mem_cons_self, a⟩
      · exact .inr ⟨q', List.mem_cons_of_mem _ hq', a⟩
    · rintro (a | ⟨q', hq', a⟩)
      · exact .inl (.inl a)
      · rcases List.mem_cons.mp hq' with rfl | z
        · exact .inl (.inr a)
        · exact .inr ⟨q', z, a⟩
theorem fnd_perm {p h : Nat} {os : List Od} (ok : NetOk p h os) : (fnd p h os (lets p h)).Perm (loopsN p h os) := by
  obtain ⟨h1, h2⟩ := fnd_spec (p := p) (h := h) (os := os) (lets p h) [] List.nodup_nil
  refine (List.perm_ext_iff_of_nodup h1 (loopsN_nd ok)).mpr fun l => ?_
  rw [h2]
  constructor
  · rintro (a | ⟨q, hq, r, e, rfl⟩)
    · cases a
    · obtain ⟨c, hx, _⟩ := raw_cycF ok (mem_lets.mp hq).1 e
      obtain ⟨a1, a2, a3, _⟩ := canon_spec ok c hx
      exact (mem_loopsN ok).mpr ⟨a1, a2, fun x hx' => hx x ((a3 x).mp hx')⟩
  · intro hl
    obtain ⟨c, hm', hx⟩ := (mem_loopsN ok).mp hl
    obtain ⟨q, hq, e⟩ := List.mem_filterMap.mp hl
    obtain ⟨x, xs, rfl⟩ := c.cons
    exact .inr ⟨q, hq, _, lp_raw (goodL_some e).1, canon_eq ok c hx c hm' List.mem_cons_self List.mem_cons_self⟩
/-- loops that share a stop are one -/
theorem loopsN_share {p h : Nat} {os : List Od} (ok : NetOk p h os) {l l' : List (Nat × Nat)} {x : Nat × Nat} (hl : l ∈ loopsN p h os) (hl' : l' ∈ loopsN p h os) (hx : x ∈ l) (hx' : x ∈ l') : l = l' := by
  obtain ⟨c, m1, _⟩ := (mem_loopsN ok).mp hl
  obtain ⟨c', m2, _⟩ := (mem_loopsN ok).mp hl'
  exact c.uniq c' m1 m2 hx hx'
abbrev s_letters : Stmt := top 19
abbrev N_letters : List Str := ["net", "house", "day"]
abbrev P_letters : List Str := ["net"]
theorem sc_letters : FnScope N_letters P_letters (defScope s_letters) := ⟨rfl, rfl, rfl, by decide +kernel, rfl, by decide +kernel, by decide +kernel⟩
/-! ### all letters of a period; stops by the days of the period -/
def spLets (C : Addr) : Sp := fun vs H Q _ => ∃ (x t : Addr) (p h : Nat) (os : List Od) (F : List Addr), vs = [.ref x] ∧ NetAt C H x p h os t F ∧ NetOk p h os ∧
  ∀ H' r ws, Same H H' → H r = none → H' r = some (.lst ws) → Paired (StopAt H') ws (lets p h) → Q (.ref r) H'
theorem lets_step {p h i j : Nat} (hi : i < h) (hj : j < p) : ((List.range i).flatMap fun a => (List.range p).map fun d => (a, d)) ++ ((List.range (j + 1)).map fun d => (i, d)) = (((List.range i).flatMap fun a => (List.range p).map fun d => (a, d)) ++ ((List.range j).map fun d => (i, d))) ++ [(i, j)] := by
  rw [List.range_succ, List.map_append, List.append_assoc]
  rfl
theorem lets_row {p i : Nat} : ((List.range (i + 1)).flatMap fun a => (List.range p).map fun d => (a, d)) = ((List.range i).flatMap fun a => (List.range p).map fun d => (a, d)) ++ ((List.range p).map fun d => (i, d)) := by
  rw [List.range_succ, List.flatMap_append]
  simp
theorem rows_len {p i j : Nat} : (((List.range i).flatMap fun a => (List.range p).map fun d => (a, d)) ++ ((List.range j).map fun d => (i, d))).length = i * p + j := by
  rw [List.length_append, List.length_map, List.length_range]
  have := lets_len (p := p) (h := i)
  unfold lets at this
  rw [this]
section
variable {P : Program} {w : World} {K : PySem.W.Frag} {mg : Str → Option Value} {base : Heap}
theorem ok_letters {f C : Addr} {fd : FuncData} (F : Fun K "letters" "letters" s_letters f fd) (B : Blt mg) (T : NetT K C) : FnOk P w K mg base CX0 2 f fd P_letters (spLets C) := by
  refine F.ok sc_letters (fun vs H Q E h => ?_) (fun cdv A outer s H vs Q E hr h => ?_)
  · obtain ⟨x, t, p, h, os, F, rfl, _⟩ := h
    rfl
  · obtain ⟨x, t, p, h, os, F, rfl, Nt, nok, q⟩ := h
    refine ⟨_, pss_one (ps_ret (pe_lc2 (own := [("house", 1), ("day", 2)]) (vs1 := [2]) (g := gName 1) (g1 := gName 2) (tt := tYes) (tt1 := tYes) (wi1 := iRng1 (tCons (tFld K (tVar 0) "period") tNil)) (te := tTup (tCons (tVar 1) (tCons (tVar 2) tNil))) (by rfl) sc_letters.nd (pi_range1 rfl B.range (pa_cons (pe_fld (pv 0) rfl) pa_nil))
          (blkOk_by (N := N_letters) (sc := defScope s_letters) (by decide +kernel)) (by intro i hi; simp at hi; simp [hi]) (fun _ _ _ _ _ => pg_name (i := 1) sc_letters.nd rfl (.inl rfl)) (fun _ _ _ _ _ => pts_nil)
          (fun _ _ _ _ _ => pi_range1 rfl B.range (pa_cons (pe_fld (pv 0) rfl) pa_nil)) (fun _ _ _ _ _ => pg_name (i := 2) sc_letters.nd rfl (.inl rfl)) (fun _ _ _ _ _ => pts_nil) (fun _ _ _ _ _ => pe_tup (pa_cons (pv 1) (pa_cons (pv 2) pa_nil))))), ?_⟩
    have p30 := nok.p30; have h10 := nok.h10
    obtain ⟨dx, fl, as, _, hx, _⟩ := id Nt
    have big : h * p ≤ 300 := Nat.mul_le_mul h10 p30
    refine ⟨_, rfl, x, C, dx, _, _, rfl, hx, T.cl, T.nH, nf_ho, (h : Int), rfl, by omega, by omega, fun D nD => ?_⟩
    have nDF := Nt.new nD
    refine lc2_rng (lo := 0) (n := (h : Int).toNat) (fun i H' => ∃ ws, NetAt C H' x p h os t F ∧ Same H H' ∧ H' D = some (.lst ws) ∧ Paired (StopAt H') ws ((List.range i).flatMap fun a => (List.range p).map fun d => (a, d))) ⟨[], Nt.same (same_upd nD), same_upd nD, upd_same, .nil⟩ ?_ ?_
    · rintro i H1 hi ⟨ws, N1, s1, hD, hw⟩
      have hi2 : i < h := by omega
      obtain ⟨dx1, _, _, _, hx1, _⟩ := id N1
      refine ⟨rfl, _, rfl, x, C, dx1, _, _, rfl, hx1, T.cl, T.nP, nf_pe, (p : Int), rfl, by omega, by omega, ?_⟩
      refine in_rng (lo := 0) (n := (p : Int).toNat) (fun j H' => ∃ ws, NetAt C H' x p h os t F ∧ Same H H' ∧ H' D = some (.lst ws) ∧ Paired (StopAt H') ws (((List.range i).flatMap fun a => (List.range p).map fun d => (a, d)) ++ ((List.range j).map fun d => (i, d)))) ⟨ws, N1, s1, hD, by rw [List.range_zero, List.map_nil, List.append_nil]; exact hw⟩ ?_ ?_
      · rintro j H2 hj ⟨ws, N2, s2, hD2, hw2⟩
        have hj2 : j < p := by omega
        refine ⟨rfl, _, rfl, _, rfl, (by show 2 ≤ sizeLine; decide), fun u nu => ?_⟩
        have s3 := same_upd (o := HO.tup [.int (0 + (i : Int)), .int (0 + (j : Int))]) nu
        have hD3 := s3 _ _ hD2
        have nuD : u ≠ D := (ne_of_none hD2 nu).symm
        refine ⟨ws, hD3, ?_, ?_⟩
        · rw [hw2.length, rows_len]
          have : i * p + p ≤ h * p := by
            rw [← Nat.succ_mul]
            exact Nat.mul_le_mul_right _ hi2
          exact small1000 (by omega)
        · have k := TupKeep.lst (o := HO.lst (ws ++ [.ref u])) hD3
          refine ⟨ws ++ [.ref u], (N2.same s3).but (d := D) .upd k nDF, fun b o e => ?_, upd_same, ?_⟩
          · rw [upd_ne (ne_of_none e nD)]
            exact s3 _ _ (s2 _ _ e)
          · rw [lets_step hi2 hj2]
            refine Paired.snoc (StopsAt.keep (tk_of s3 |>.trans k) hw2) ⟨u, rfl, ?_⟩
            rw [upd_ne nuD, upd_same, Int.zero_add, Int.zero_add]
      · rintro H2 ⟨ws, N2, s2, hD2, hw2⟩
        refine ⟨ws, N2, s2, hD2, ?_⟩
        rw [lets_row]
        exact hw2
    · rintro H1 ⟨ws, N1, s1, hD, hw⟩
      exact q H1 D ws s1 nD hD hw
end
abbrev s_day_stops : Stmt := top 20
abbrev N_day_stops : List Str := ["net", "stops", "house", "day"]
abbrev P_day_stops : List Str := ["net", "stops"]
theorem sc_day_stops : FnScope N_day_stops P_day_stops (defScope s_day_stops) := ⟨rfl, rfl, rfl, by decide +kernel, rfl, by decide +kernel, by decide +kernel⟩
/-! ### stops by the days of the period -/
section
variable {P : Program} {w : World} {K : PySem.W.Frag} {mg : Str → Option Value} {base : Heap}
/-- stops, with their days of the period: a new list of new tuples -/
def spDst (C : Addr) : Sp := fun vs H Q _ => ∃ (x t a : Addr) (p h : Nat) (os : List Od) (F : List Addr) (ws : List V) (l : List (Nat × Nat)), vs = [.ref x, .ref a] ∧ NetAt C H x p h os t F ∧ NetOk p h os ∧ H a = some (.lst ws) ∧ Paired (StopAt H) ws l ∧ l.length ≤ 400 ∧
  ∀ H' r us, Same H H' → H r = none → H' r = some (.lst us) → Paired (StopAt H') us (l.map (plc p)) → Q (.ref r) H'
theorem ok_dst {f C : Addr} {fd : FuncData} (F : Fun K "day_stops" "day_stops" s_day_stops f fd) (T : NetT K C) : FnOk P w K mg base CX0 2 f fd P_day_stops (spDst C) := by
  refine F.ok sc_day_stops (fun vs H Q E h => ?_) (fun cdv A outer s H vs Q E hr h => ?_)
  · obtain ⟨x, t, a, p, h, os, F, ws, l, rfl, _⟩ := h
    rfl
  · obtain ⟨x, t, a, p, h, os, F, ws, l, rfl, Nt, nok, ha, hw, hl, q⟩ := h
    refine ⟨_, pss_one (ps_ret (pe_lc (own := [("house", 2), ("day", 3)]) (g := gTup K 2 (gCons (gName 2) (gCons (gName 3) gNil))) (tt := tYes) (te := tTup (tCons (tVar 2) (tCons (tOp (rI (fun _ j => j ≠ 0) fun i j => .int (i.fmod j)) (tVar 3) (tFld K (tVar 0) "period")) tNil))) (by rfl) sc_day_stops.nd (pi_list (pv 1))
            (blkOk_by (N := N_day_stops) (sc := defScope s_day_stops) (by decide +kernel)) (fun _ _ _ _ _ => pg_tup (by rfl) (pgs_cons (pg_name (i := 2) sc_day_stops.nd rfl (.inl rfl)) (pgs_cons (pg_name (i := 3) sc_day_stops.nd rfl (.inl rfl)) pgs_nil))) (fun _ _ _ _ _ => pts_nil)
            (fun _ _ _ _ _ => pe_tup (pa_cons (pv 2) (pa_cons (pe_op op_modN (pv 3) (pe_fld (pv 0) rfl)) pa_nil))))), ?_⟩
    have p1 := nok.p1
    refine ⟨_, rfl, a, rfl, ⟨_, SqL.of ha⟩, fun D nD => ?_⟩
    have nDF := Nt.new nD
    have naD : a ≠ D := ne_of_none ha nD
    have hlen := hw.length
    refine lc_list (K := K) (a := a) (xs := ws) (fun j H' => ∃ us, NetAt C H' x p h os t F ∧ Same H H' ∧ H' D = some (.lst us) ∧ Paired (StopAt H') us ((l.take j).map (plc p))) ⟨[], Nt.same (same_upd nD), same_upd nD, upd_same, .nil⟩ (fun j H' _ ⟨us, N', s', _⟩ => SqL.of (s' _ _ ha)) ?_ ?_
    · rintro j v H1 hj ⟨us, N1, s1, hD, hu⟩
      have lt : j < l.length := by rw [← hlen]; exact (List.getElem?_eq_some_iff.mp hj).1
      have ej := List.getElem?_eq_getElem lt
      obtain ⟨v', hv', hvs⟩ := Paired.get? (i := j) hw ej
      obtain rfl : v' = v := Option.some.inj (hv'.symm.trans hj)
      generalize l[j] = sj at ej hvs
      obtain ⟨u0, rfl, hu0⟩ := hvs
      obtain ⟨dx, _, _, _, hx, _⟩ := id N1
      refine ⟨u0, _, rfl, SqT.of (s1 _ _ hu0), rfl, _, _, rfl, _, _, rfl, rfl, rfl, ?_⟩
      refine ⟨_, rfl, _, rfl, _, rfl, x, C, dx, _, _, rfl, hx, T.cl, T.nP, nf_pe, _, _, rfl, rfl, by omega, (by show 2 ≤ sizeLine; decide), fun u nu => ?_⟩
      have s3 := same_upd (o := HO.tup [.int sj.1, .int ((sj.2 : Int).fmod (p : Int))]) nu
      have hD3 := s3 _ _ hD
      have nuD : u ≠ D := (ne_of_none hD nu).symm
      have k := TupKeep.lst (o := HO.lst (us ++ [.ref u])) hD3
      refine ⟨us, hD3, ?_, us ++ [.ref u], (N1.same s3).but (d := D) .upd k nDF, fun b o e => ?_, upd_same, ?_⟩
      · rw [hu.length, List.length_map, List.length_take]
        exact small1000 (by omega)
      · rw [upd_ne (ne_of_none e nD)]
        exact s3 _ _ (s1 _ _ e)
      · rw [List.take_add_one, ej, List.map_append]
        refine Paired.snoc (StopsAt.keep (tk_of s3 |>.trans k) hu) ⟨u, rfl, ?_⟩
        rw [upd_ne nuD, upd_same]
        show some (HO.tup [V.int sj.1, V.int ((sj.2 : Int).fmod (p : Int))]) = _
        rw [fmod_nat]
        rfl
    · rintro H1 ⟨us, N1, s1, hD, hu⟩
      rw [hlen, List.take_of_length_le (Nat.le_refl _)] at hu
      exact q H1 D us s1 nD hD hu
end
/-! ### pairs as data: their order and their least -/
section
open PySem.W (alike alikeAll dataLt minD AlikeAll)
theorem plD_alike (s t : Nat × Nat) : alike (plD s) (plD t) = true := by
  simp [plD, alike, alikeAll]
theorem plDs_alike (l : List (Nat × Nat)) : AlikeAll (l.map plD) := by
  refine ⟨fun x hx y hy => ?_, fun x hx => ?_⟩
  · obtain ⟨s, _, rfl⟩ := List.mem_map.mp hx
    obtain ⟨t, _, rfl⟩ := List.mem_map.mp hy
    exact plD_alike s t
  · obtain ⟨s, _, rfl⟩ := List.mem_map.mp hx
    intro e
    cases e
theorem int_eqv (a b : Int) : PyData.eqv (.int a) (.int b) = decide (a = b) := by
  by_cases h : a = b <;> simp [PyData.eqv, h]
theorem dataLt_pl (s t : Nat × Nat) : dataLt (plD s) (plD t) = ltS s t := by
  unfold plD ltS
  rw [PySem.W.dataLt_tuple]
  by_cases e1 : s.1 = t.1
  · rw [if_pos e1, PySem.W.dataLt_all_yes (by simp [alike]) (by rw [int_eqv, e1]; exact decide_eq_true rfl)]
    by_cases e2 : s.2 = t.2
    · rw [PySem.W.dataLt_all_yes (by simp [alike]) (by rw [int_eqv, e2]; exact decide_eq_true rfl), e2, decide_eq_false (Nat.lt_irrefl _)]
      simp [PySem.W.keyToksAll, PyProof.Rows.lexLt]
      rfl
    · rw [PySem.W.dataLt_all_no (by simp [alike]) (by rw [int_eqv]; exact decide_eq_false (by omega)), PySem.W.dataLt_int]
      by_cases c : s.2 < t.2
      · rw [decide_eq_true c, decide_eq_true (by omega)]
      · rw [decide_eq_false c, decide_eq_false (by omega)]
  · rw [if_neg e1, PySem.W.dataLt_all_no (by simp [alike]) (by rw [int_eqv]; exact decide_eq_false (by omega)), PySem.W.dataLt_int]
    by_cases c : s.1 < t.1
    · rw [decide_eq_true c, decide_eq_true (by omega)]
    · rw [decide_eq_false c, decide_eq_false (by omega)]
theorem minD_pl : ∀ (xs : List (Nat × Nat)) (x : Nat × Nat), minD (plD x) (xs.map plD) = plD (minS x xs)
  | [], x => rfl
  | y :: ys, x => by
    show minD (if dataLt (plD y) (plD x) = true then plD y else plD x) (ys.map plD) = plD (minS (if ltS y x then y else x) ys)
    rw [dataLt_pl]
    by_cases c : ltS y x = true
    · rw [if_pos c, if_pos c]
      exact minD_pl ys y
    · rw [if_neg c, if_neg c]
      exact minD_pl ys x
theorem plD_inj {s t : Nat × Nat} (e : plD s = plD t) : s = t := by
  have h := plD_eqv s t
  rw [← e] at h
  rw [PySem.SeqAt.eqv_refl _ (PySem.SeqAt.canLay_of_shaped (plD_shaped s))] at h
  exact of_decide_eq_true h.symm
/-- min of a list of stops -/
theorem min_depth (x : Nat × Nat) (xs : List (Nat × Nat)) : PyData.depthAll (plD x :: xs.map plD) ≤ 60 := by
  have := plDs_depth (x :: xs)
  rw [List.map_cons] at this
  omega
theorem min_at {H : Hp} {ws : List V} {x : Nat × Nat} {xs : List (Nat × Nat)} {i : Nat} {v : V} (hw : Paired (StopAt H) ws (x :: xs)) (hi : ws[i]? = some v) (he : (plD x :: xs.map plD)[i]? = some (minD (plD x) (xs.map plD))) : StopAt H v (minS x xs) := by
  have hil : i < (x :: xs).length := by rw [← hw.length]; exact (List.getElem?_eq_some_iff.mp hi).1
  obtain ⟨v', hv', hs⟩ := Paired.get? (i := i) hw (List.getElem?_eq_getElem hil)
  obtain rfl : v' = v := Option.some.inj (hv'.symm.trans hi)
  have e2 : ((x :: xs).map plD)[i]? = some (plD (x :: xs)[i]) := by rw [List.getElem?_map, List.getElem?_eq_getElem hil]; rfl
  rw [List.map_cons, he, minD_pl] at e2
  rw [plD_inj (Option.some.inj e2)]
  exact hs
end
abbrev s_loops : Stmt := top 18
abbrev N_loops : List Str := ["net", "found", "house", "day", "stops", "back", "loop"]
abbrev P_loops : List Str := ["net"]
theorem sc_loops : FnScope N_loops P_loops (defScope s_loops) := ⟨rfl, rfl, rfl, by decide +kernel, rfl, by decide +kernel, by decide +kernel⟩
/-! ### the loops of a net -/
/-- a list of lists of stops -/
def LoopAt (H : Hp) (v : V) (l : List (Nat × Nat)) : Prop := ∃ u ws, v = .ref u ∧ H u = some (.lst ws) ∧ Paired (StopAt H) ws l
theorem LoopAt.same {H H' : Hp} {v : V} {l : List (Nat × Nat)} (s : Same H H') (h : LoopAt H v l) : LoopAt H' v l := by
  obtain ⟨u, ws, e, h1, h2⟩ := h
  exact ⟨u, ws, e, s _ _ h1, StopsAt.keep (tk_of s) h2⟩
/-- a new list of loops at r, each list of its own -/
structure LpsAt (H0 H : Hp) (r : Addr) (as : List Addr) (ls : List (List (Nat × Nat))) : Prop where
  r0 : H0 r = none
  at_ : H r = some (.lst (as.map V.ref))
  new : ∀ a ∈ as, H0 a = none
  ne : r ∉ as
  nd : as.Nodup
  loops : Paired (fun a l => LoopAt H (.ref a) l) as ls
def spLoops (C : Addr) : Sp := fun vs H Q _ => ∃ (x t : Addr) (p h : Nat) (os : List Od) (F : List Addr), vs = [.ref x] ∧ NetAt C H x p h os t F ∧ NetOk p h os ∧ ∀ H' r as, Same H H' → LpsAt H H' r as (loopsN p h os) → Q (.ref r) H'
theorem pair_mem {α β : Type} {F : α → β → Prop} {x : α} : ∀ {xs : List α} {l : List β}, Paired F xs l → x ∈ xs → ∃ y, y ∈ l ∧ F x y
  | _, _, .nil, h => by cases h
  | _, _, .cons r t, h => by
    rcases List.mem_cons.mp h with rfl | z
    · exact ⟨_, List.mem_cons_self, r⟩
    · obtain ⟨y, hy, q⟩ := pair_mem t z
      exact ⟨y, List.mem_cons_of_mem _ hy, q⟩
theorem fm_one {α β : Type} (f : α → Option β) (q : α) : List.filterMap f [q] = (f q).toList := by
  cases h : f q <;> simp [h]
theorem loops_step {p h i : Nat} {os : List Od} {q : Nat × Nat} (e : (lets p h)[i]? = some q) : ((lets p h).take (i + 1)).filterMap (goodL p h os) = ((lets p h).take i).filterMap (goodL p h os) ++ (goodL p h os q).toList := by
  rw [List.take_add_one, e, List.filterMap_append, Option.toList_some, fm_one]
/-- all but the last -/
theorem cut_last {xs : List V} {v : V} : cutV (xs ++ [v]) none (some (-1)) = xs := by
  unfold cutV
  rw [HT.sIx_none, show HT.sIx (xs ++ [v]).length (xs ++ [v]).length (some (-1)) = xs.length by
    rw [List.length_append, List.length_singleton]
    unfold HT.sIx
    simp only
    rw [if_pos (by decide)]
    omega]
  simp
theorem LpsAt.same {H0 H H' : Hp} {r : Addr} {as : List Addr} {ls : List (List (Nat × Nat))} (h : LpsAt H0 H r as ls) (s : Same H H') : LpsAt H0 H' r as ls :=
  ⟨h.r0, s _ _ h.at_, h.new, h.ne, h.nd, Paired.mapP h.loops fun _ _ z => z.same s⟩
theorem LpsAt.push {H0 H : Hp} {r d : Addr} {as : List Addr} {ls : List (List (Nat × Nat))} {ws : List V} {l : List (Nat × Nat)} (h : LpsAt H0 H r as ls) (nd : H0 d = none) (hd : H d = some (.lst ws)) (hw : Paired (StopAt H) ws l) (nda : ∀ a ∈ as, a ≠ d) (nrd : r ≠ d) : LpsAt H0 (L2.upd H r (.lst (as.map V.ref ++ [.ref d]))) r (as ++ [d]) (ls ++ [l]) := by
  have k := TupKeep.lst (o := HO.lst (as.map V.ref ++ [.ref d])) h.at_
  refine ⟨h.r0, by rw [upd_same, List.map_append]; rfl, fun a ha => ?_, fun hm => ?_, ?_, ?_⟩
  · rcases List.mem_append.mp ha with z | z
    · exact h.new a z
    · rw [List.mem_singleton.mp z]
      exact nd
  · rcases List.mem_append.mp hm with z | z
    · exact h.ne z
    · exact nrd (List.mem_singleton.mp z)
  · rw [List.nodup_append]
    refine ⟨h.nd, List.nodup_cons.mpr ⟨by simp, List.nodup_nil⟩, fun a ha b hb e => ?_⟩
    rw [List.mem_singleton.mp hb] at e
    exact nda a ha e
  · refine Paired.snoc ?_ ⟨d, ws, rfl, (upd_ne nrd.symm).trans hd, StopsAt.keep k hw⟩
    have hne := h.ne
    have hl := h.loops
    clear nda
    generalize ls = ls0 at hl
    revert hne hl
    generalize as.map V.ref ++ [V.ref d] = gg at k
    intro hne hl
    clear h
    induction hl with
    | nil => exact .nil
    | cons q _ ih =>
      obtain ⟨u, ws', e, h1, h2⟩ := q
      cases e
      exact .cons ⟨_, ws', rfl, (upd_ne fun z => hne (by rw [z]; exact List.mem_cons_self)).trans h1, StopsAt.keep k h2⟩ (ih fun z => hne (List.mem_cons_of_mem _ z))
section
variable {P : Program} {w : World} {K : PySem.W.Frag} {mg : Str → Option Value} {base : Heap}
theorem ok_loops {f C : Addr} {fd : FuncData} (F : Fun K "loops" "loops" s_loops f fd) (B : Blt mg) (zm : mg "min" = none) (DL : Df P w K mg base "letters" 2 P_letters (spLets C)) (DF : Df P w K mg base "follow" 7 P_follow (spFollow C)) (DD : Df P w K mg base "day_stops" 2 P_day_stops (spDst C)) : FnOk P w K mg base CX0 8 f fd P_loops (spLoops C) := by
  obtain ⟨fL, fdL, gL, kL, bL, GL⟩ := DL
  obtain ⟨fF, fdF, gF, kF, bF, GF⟩ := DF
  obtain ⟨fD, fdD, gD, kD, bD, GD⟩ := DD
  refine F.ok sc_loops (fun vs H Q E h => ?_) (fun cdv A outer s H vs Q E hr h => ?_)
  · obtain ⟨x, t, p, h, os, F, rfl, _⟩ := h
    rfl
  · obtain ⟨x, t, p, h, os, F, rfl, Nt, nok, q⟩ := h
    have hr1 : Room 2 _ := hr.mono (by decide)
    have hu : (A.deeper (PyProof.Rows.envOfC "loops" (defScope s_loops) s.heap.objs.size f cdv)).units + 65 < cLine := by
      have := hr.un
      omega
    have hu64 := Nat.lt_of_succ_lt hu
    refine ⟨_, pss_cons (ps_set (i := 1) sc_loops.nd rfl (.inl rfl) (pe_lst pa_nil))
      (pss_cons (ps_for PassesOwn.never rfl (pi_list (pe_call GL hr1 (by rfl) gL kL bL .nil pass0 (pa_cons (pv 0) pa_nil))) (pg_tup (by rfl) (pgs_cons (pg_name (i := 2) sc_loops.nd rfl (.inl rfl)) (pgs_cons (pg_name (i := 3) sc_loops.nd rfl (.inl rfl)) pgs_nil)))
        (pss_cons (ps_asg (pe_call GF hr (by rfl) gF kF bF .nil pass0 (pa_cons (pv 0) (pa_cons (pv 2) (pa_cons (pv 3) pa_nil)))) (pg_tup (by rfl) (pgs_cons (pg_name (i := 4) sc_loops.nd rfl (.inl rfl)) (pgs_cons (pg_name (i := 5) sc_loops.nd rfl (.inl rfl)) pgs_nil))))
        (pss_one (ps_if (pt_cmpR op_eq (pv 5) pe_int (nomark _))
          (pss_cons (ps_set (i := 6) sc_loops.nd rfl (.inl rfl) (pe_call GD hr1 (by rfl) gD kD bD .nil pass0 (pa_cons (pv 0) (pa_cons (pe_slice sl_list (pv 4) po_none (po_some (pe_un un_neg pe_int))) pa_nil))))
          (pss_one (ps_if (pt_cmpR (op_eqD hu64) (pe_ix ix_list (pv 6) pe_int (fun _ _ => rfl)) (pe_callB (cr_minD rfl hu) (by rfl) zm PyProof.Rows.boot_min (pa_cons (pv 6) pa_nil)) (nomark _))
            (pss_one (ps_expr (pe_bm PySem.F.plainAttrs_list PySem.F.slot_list_append PySem.F.type_list_append mt_append (pv 1) (pa_cons (pv 6) pa_nil)))) pss_nil))) pss_nil))))
      (pss_one (ps_ret (pv 1)))), ?_⟩
    have p30 := nok.p30; have h10 := nok.h10
    have big : h * p ≤ 300 := Nat.mul_le_mul h10 p30
    refine ⟨Nat.zero_le _, fun fo nfo => ?_⟩
    have sf := same_upd (o := HO.lst []) nfo
    refine ⟨_, rfl, x, t, p, h, os, F, rfl, Nt.same sf, nok, fun H1 r ws s1 nr hr1 hws => ?_⟩
    have hlen := hws.length
    have nfr : fo ≠ r := ne_of_none upd_same nr
    have nfF : fo ∉ F := Nt.new nfo
    have s01 := sf.trans s1
    refine ⟨r, rfl, ⟨_, SqL.of hr1⟩, ?_⟩
    refine for_list (K := K) (a := r) (xs := ws) (fun i σ H' => (∃ x2 x3 x4 x5 x6 as, σ = [some (.ref x), some (.ref fo), x2, x3, x4, x5, x6] ∧ LpsAt H H' fo as (((lets p h).take i).filterMap (goodL p h os))) ∧ Same H H' ∧ NetAt C H' x p h os t F ∧ H' r = some (.lst ws) ∧ Paired (StopAt H') ws (lets p h))
      ⟨⟨_, _, _, _, _, [], rfl, ⟨nfo, s1 _ _ upd_same, fun _ z => (by cases z), by simp, List.nodup_nil, .nil⟩⟩, s01, (Nt.same s01), hr1, hws⟩ (fun i σ H' _ ⟨_, _, _, h', _⟩ => SqL.of h') ?_ ?_
    · rintro i vi σ H2 hi ⟨⟨x2, x3, x4, x5, x6, as, rfl, L2⟩, s2, N2, hr2, hws2⟩
      have lt : i < (lets p h).length := by rw [← hlen]; exact (List.getElem?_eq_some_iff.mp hi).1
      have ei := List.getElem?_eq_getElem lt
      obtain ⟨v', hv', hvs⟩ := Paired.get? (i := i) hws2 ei
      obtain rfl : v' = vi := Option.some.inj (hv'.symm.trans hi)
      have hmem := List.mem_of_getElem? ei
      rw [loops_step ei]
      generalize (lets p h)[i] = qi at ei hvs hmem
      obtain ⟨hq1, hq2⟩ := mem_lets.mp hmem
      obtain ⟨u0, rfl, hu0⟩ := hvs
      refine ⟨u0, _, rfl, SqT.of hu0, rfl, _, _, rfl, _, _, rfl, rfl, ?_⟩
      refine ⟨_, rfl, _, rfl, _, rfl, x, t, p, h, qi.1, qi.2, os, F, rfl, N2, nok, hq1, by omega, fun H3 r3 s3 ⟨sl, vs, _, hr3, nsl, hsl, hvs⟩ => ?_⟩
      refine ⟨r3, _, rfl, SqT.of hr3, rfl, _, _, rfl, _, _, rfl, rfl, ?_⟩
      have hne := folR_ne (p := p) (h := h) (os := os) (st := qi)
      have hll := folR_len (p := p) (h := h) (os := os) (st := qi)
      have hlp : lpOf p h os qi = match (folR p h os qi).2 with | some 0 => some ((folR p h os qi).1.dropLast.map (plc p)) | _ => none := rfl
      have L3 := L2.same s3
      have ng : lpOf p h os qi = none → goodL p h os qi = none := fun e => by
        unfold goodL
        rw [e]
      refine ⟨_, rfl, ?_, _, rfl, ?_⟩
      · cases (folR p h os qi).2 <;> rfl
      refine ite2 (fun e => ?_) (fun e => ?_)
      · have e0 : (folR p h os qi).2 = some 0 := by
          have z := of_decide_eq_true e
          generalize (folR p h os qi).2 = o at z
          cases o with
          | none => cases z
          | some k =>
            have z2 := V.int.inj z
            have : k = 0 := by omega
            rw [this]
        rw [e0] at hlp
        have hlp2 : lpOf p h os qi = some ((folR p h os qi).1.dropLast.map (plc p)) := hlp
        obtain ⟨_, _, xs, exs⟩ := lp_cyc nok hq1 hlp2
        obtain ⟨l', c, el⟩ : ∃ l' c, (folR p h os qi).1 = l' ++ [c] := ⟨_, _, (List.dropLast_concat_getLast hne).symm⟩
        have hll' : l'.length ≤ h * p := by
          rw [el, List.length_append, List.length_singleton] at hll
          omega
        rw [el] at hvs hlp2 exs
        rw [List.dropLast_concat] at hlp2 exs
        obtain ⟨vs', vc, rfl, hvs', uc, rfl, huc⟩ := pair_split hvs
        -- stops[:-1]
        refine ⟨_, rfl, _, rfl, _, rfl, -1, rfl, sl, _, rfl, SqL.of hsl, fun cl ncl => ?_⟩
        rw [cut_last]
        have s4 := same_upd (o := HO.lst vs') ncl
        refine ⟨x, t, cl, p, h, os, F, vs', l', rfl, (N2.same s3).same s4, nok, upd_same, StopsAt.keep (tk_of s4) hvs', by omega, fun H5 dl us s5 ndl hdl hus => ?_⟩
        rw [exs] at hus
        have s45 := s4.trans s5
        have L5 := L3.same s45
        have N5 := (N2.same s3).same s45
        have s25 := s2.trans (s3.trans s45)
        have hlq : goodL p h os qi = if hm (plc p qi :: xs) = true then some (plc p qi :: xs) else none := by
          unfold goodL
          rw [hlp2, exs]
        have ndl2 : H dl = none := s2.free (s3.free (s4.free ndl))
        have hr5 := s3.trans s45 _ _ hr2
        have hws5 := StopsAt.keep (tk_of (s3.trans s45)) hws2
        have ndr : dl ≠ r := fun z => by
          have := s4.free ndl
          rw [z, (s3 _ _ hr2)] at this
          cases this
        have nda : ∀ a ∈ as, a ≠ dl := fun a ha z => by
          obtain ⟨l0, _, _, ws0, e1, e2, _⟩ := pair_mem L5.loops ha
          cases e1
          have h3 := s4.free ndl
          obtain ⟨l1, _, _, ws1, e3, e4, _⟩ := pair_mem L3.loops ha
          cases e3
          rw [z, h3] at e4
          cases e4
        have nfd : fo ≠ dl := fun z => by
          have h3 := s4.free ndl
          rw [← z, L3.at_] at h3
          cases h3
        cases us with
        | nil => cases hus
        | cons u us =>
          have hu0 := hus
          cases hu0 with
          | cons hu _ =>
            refine ⟨_, rfl, dl, _, 0, _, rfl, rfl, SqL.of hdl, atI_nat (j := 0) rfl, _, rfl, dl, _, _, _, rfl, SqL.of hdl, stops_dp hus, plDs_alike (_ :: _), min_depth _ _, fun mi v hmi hme => ?_⟩
            have hv := min_at hus hmi hme
            refine ⟨_, _, stop_dp hu, stop_dp hv, plD_shaped _, plD_shaped _, _, rfl, ?_⟩
            rw [plD_eqv]
            refine ite2 (fun e2 => ?_) (fun e2 => ?_)
            · have hmt : hm (plc p qi :: xs) = true := e2
              rw [hlq, if_pos hmt]
              have hfo := L5.at_
              refine ⟨_, rfl, .inl ⟨rfl, _, SqL.of hfo⟩, _, rfl, fo, _, _, rfl, rfl, hfo, ?_, ?_⟩
              · rw [List.length_map, L5.loops.length]
                exact small1000 (Nat.le_trans (List.length_filterMap_le _ _) (by rw [List.length_take, lets_len]; omega))
              · have k := TupKeep.lst (o := HO.lst (as.map V.ref ++ [.ref dl])) hfo
                refine ⟨⟨_, _, _, _, _, as ++ [dl], rfl, L5.push ndl2 hdl hus nda nfd⟩, fun b o e' => ?_, N5.but (d := fo) .upd k nfF, (upd_ne nfr.symm).trans hr5, StopsAt.keep k hws5⟩
                rw [upd_ne (ne_of_none e' nfo)]
                exact s25 _ _ e'
            · have hmf : ¬ hm (plc p qi :: xs) = true := e2
              rw [hlq, if_neg hmf, Option.toList_none, List.append_nil]
              exact ⟨⟨_, _, _, _, _, as, rfl, L5⟩, s25, N5, hr5, hws5⟩
      · have e0 : lpOf p h os qi = none := by
          rw [hlp]
          generalize (folR p h os qi).2 = o at e
          match o, e with
          | none, _ => rfl
          | some 0, e => exact absurd (decide_eq_true (by rfl)) e
          | some (n + 1), _ => rfl
        rw [ng e0, Option.toList_none, List.append_nil]
        exact ⟨⟨_, _, _, _, _, as, rfl, L3⟩, s2.trans s3, N2.same s3, s3 _ _ hr2, StopsAt.keep (tk_of s3) hws2⟩
    · rintro σ H2 ⟨⟨x2, x3, x4, x5, x6, as, rfl, L2⟩, s2, _⟩
      rw [hlen, List.take_of_length_le (Nat.le_refl _)] at L2
      exact ⟨_, rfl, q H2 fo as s2 L2⟩
end
/-! ### where letters are delivered: plain mathematics -/
def dst (p h : Nat) (os : List Od) (st : Nat × Nat) : Option (Nat × Nat) := destOf (folR p h os st)
theorem stp_none_add {p : Nat} {os : List Od} {i : Nat} {st : Nat × Nat} (e : stp p os i st = none) (k : Nat) : stp p os (i + k) st = none := by
  rw [stp_add, e]
  rfl
theorem stp_succ_none {p : Nat} {os : List Od} {j : Nat} {st c : Nat × Nat} (h1 : stp p os j st = some c) (h2 : hop p os c = none) : stp p os (j + 1) st = none := by
  show (stp p os j st).bind (hop p os) = none
  rw [h1]
  exact h2
theorem dst_iff {p h : Nat} {os : List Od} {st c : Nat × Nat} (ok : NetOk p h os) (hh : st.1 < h) : dst p h os st = some c ↔ ∃ j, stp p os j st = some c ∧ hop p os c = none := by
  unfold dst
  rcases folR_cases ok hh with ⟨l, e, hne, hl, _⟩ | ⟨m, s, b, t, k, e, hl, hb, hs, hk, _⟩
  · rw [e]
    show l.getLast? = some c ↔ _
    have hlen : 0 < l.length := List.length_pos_iff.mpr hne
    have hend : stp p os l.length st = none := by
      rw [← hl]
      exact List.getElem?_eq_none_iff.mpr (Nat.le_refl _)
    have hlast : l.getLast? = stp p os (l.length - 1) st := by rw [← hl, List.getLast?_eq_getElem?]
    rw [hlast]
    constructor
    · intro h1
      refine ⟨_, h1, ?_⟩
      have e2 : (stp p os (l.length - 1) st).bind (hop p os) = none := by
        have e1 : stp p os (l.length - 1 + 1) st = none := by rw [Nat.sub_add_cancel hlen]; exact hend
        exact e1
      rw [h1] at e2
      exact e2
    · rintro ⟨j, h1, h2⟩
      have e3 := stp_succ_none h1 h2
      have hj : j < l.length := by
        rcases Nat.lt_or_ge j l.length with z | z
        · exact z
        · have := stp_none_add hend (j - l.length)
          rw [show l.length + (j - l.length) = j by omega, h1] at this
          cases this
      have hj2 : ¬ j + 1 < l.length := fun z => by
        have := hl (j + 1)
        rw [e3, List.getElem?_eq_getElem z] at this
        cases this
      rw [show l.length - 1 = j by omega]
      exact h1
  · rw [e]
    show (none : Option (Nat × Nat)) = some c ↔ _
    constructor
    · intro z
      cases z
    · rintro ⟨j, h1, h2⟩
      exfalso
      have hbl : b < m.length := (List.getElem?_eq_some_iff.mp hb).1
      have g1 : stp p os b st = some t := by
        rw [← hl b (Nat.le_of_lt hbl), List.getElem?_append_left hbl]
        exact hb
      have g2 : stp p os (b + (m.length - b)) st = some (shf (p * k) t) := by
        rw [show b + (m.length - b) = m.length by omega, ← hl _ (Nat.le_refl _), List.getElem?_append_right (Nat.le_refl _), Nat.sub_self, hs]
        rfl
      have hr := stp_round (N := m.length - b) (k0 := k) rfl g1 g2 (j + 1) 0
      have n1 : 1 ≤ m.length - b := by omega
      have n2 : 1 * (j + 1) ≤ (m.length - b) * (j + 1) := Nat.mul_le_mul_right _ n1
      have e3 := stp_none_add (stp_succ_none h1 h2) (b + 0 + (m.length - b) * (j + 1) - (j + 1))
      rw [show j + 1 + (b + 0 + (m.length - b) * (j + 1) - (j + 1)) = b + 0 + (m.length - b) * (j + 1) by omega, hr, show stp p os (b + 0) st = some t from g1] at e3
      cases e3
theorem dst_end {p h : Nat} {os : List Od} {st : Nat × Nat} (ok : NetOk p h os) (hh : st.1 < h) (e : hop p os st = none) : dst p h os st = some st := (dst_iff ok hh).mpr ⟨0, rfl, e⟩
theorem dst_stp {p h : Nat} {os : List Od} {st s : Nat × Nat} {i : Nat} (ok : NetOk p h os) (hh : st.1 < h) (e : stp p os i st = some s) : dst p h os st = dst p h os s := by
  have hs := pst_house ok hh i e
  apply Option.ext
  intro c
  rw [dst_iff ok hh, dst_iff ok hs]
  constructor
  · rintro ⟨j, h1, h2⟩
    by_cases z : i ≤ j
    · refine ⟨j - i, ?_, h2⟩
      rw [show j = i + (j - i) by omega, stp_add, e] at h1
      exact h1
    · have e3 := stp_none_add (stp_succ_none h1 h2) (i - (j + 1))
      rw [show j + 1 + (i - (j + 1)) = i by omega, e] at e3
      cases e3
  · rintro ⟨j, h1, h2⟩
    refine ⟨i + j, ?_, h2⟩
    rw [stp_add, e]
    exact h1
theorem hop_shf_none {p : Nat} {os : List Od} {k : Nat} {s : Nat × Nat} : hop p os (shf (p * k) s) = none ↔ hop p os s = none := by
  rw [hop_shf, Option.map_eq_none_iff]
theorem dst_shf {p h : Nat} {os : List Od} {st : Nat × Nat} {k : Nat} (ok : NetOk p h os) (hh : st.1 < h) : dst p h os (shf (p * k) st) = (dst p h os st).map (shf (p * k)) := by
  apply Option.ext
  intro c
  rw [dst_iff ok (show (shf (p * k) st).1 < h from hh), Option.map_eq_some_iff]
  constructor
  · rintro ⟨j, h1, h2⟩
    rw [stp_shf] at h1
    obtain ⟨c', h3, rfl⟩ := Option.map_eq_some_iff.mp h1
    exact ⟨c', (dst_iff ok hh).mpr ⟨j, h3, hop_shf_none.mp h2⟩, rfl⟩
  · rintro ⟨c', h1, rfl⟩
    obtain ⟨j, h3, h4⟩ := (dst_iff ok hh).mp h1
    exact ⟨j, by rw [stp_shf, h3]; rfl, hop_shf_none.mpr h4⟩
theorem dst_cycle {p h : Nat} {os : List Od} {st : Nat × Nat} {i k : Nat} (ok : NetOk p h os) (hh : st.1 < h) (e : stp p os i st = some (shf (p * k) st)) (hk : 0 < p * k) : dst p h os st = none := by
  have h1 := dst_stp ok hh e
  rw [dst_shf ok hh] at h1
  cases q : dst p h os st with
  | none => rfl
  | some c =>
    rw [q] at h1
    have h2 : c.2 = c.2 + p * k := congrArg Prod.snd (Option.some.inj h1)
    omega
theorem dst_le {p h : Nat} {os : List Od} {st c : Nat × Nat} (ok : NetOk p h os) (hh : st.1 < h) (e : dst p h os st = some c) : st.2 ≤ c.2 := by
  obtain ⟨j, h1, _⟩ := (dst_iff ok hh).mp e
  cases j with
  | zero =>
    cases h1
    exact Nat.le_refl _
  | succ j => exact Nat.le_of_lt (stp_more (i := 0) (k := j) ok rfl (by rw [Nat.zero_add]; exact h1))
theorem dst_house {p h : Nat} {os : List Od} {st c : Nat × Nat} (ok : NetOk p h os) (hh : st.1 < h) (e : dst p h os st = some c) : c.1 < h := by
  obtain ⟨j, h1, _⟩ := (dst_iff ok hh).mp e
  exact pst_house ok hh j h1
theorem dst_plc {p h : Nat} {os : List Od} {st : Nat × Nat} (ok : NetOk p h os) (hh : st.1 < h) : dst p h os st = (dst p h os (plc p st)).map (shf (p * (st.2 / p))) := by
  rw [← dst_shf ok (show (plc p st).1 < h from hh), ← shf_plc]
/-- the goal of a letter, and how many days it takes -/
def wayOf (p h : Nat) (os : List Od) (s : Nat × Nat) : Option (Nat × Nat) := (dst p h os s).map fun g => (g.1, g.2 - s.2)
theorem wayOf_dst {p h : Nat} {os : List Od} {s : Nat × Nat} (ok : NetOk p h os) (hh : s.1 < h) : dst p h os s = (wayOf p h os s).map fun g => (g.1, s.2 + g.2) := by
  unfold wayOf
  rw [Option.map_map]
  cases q : dst p h os s with
  | none => rfl
  | some c =>
    have := dst_le ok hh q
    show some c = some (c.1, s.2 + (c.2 - s.2))
    rw [show s.2 + (c.2 - s.2) = c.2 by omega]
theorem wayOf_plc {p h : Nat} {os : List Od} {s : Nat × Nat} (ok : NetOk p h os) (hh : s.1 < h) : wayOf p h os (plc p s) = wayOf p h os s := by
  unfold wayOf
  rw [dst_plc ok hh, Option.map_map]
  cases q : dst p h os (plc p s) with
  | none => rfl
  | some c =>
    show some (c.1, c.2 - s.2 % p) = some (c.1, c.2 + p * (s.2 / p) - s.2)
    have := Nat.div_add_mod s.2 p
    rw [show c.2 + p * (s.2 / p) - s.2 = c.2 - s.2 % p by omega]
theorem dst_way {p h : Nat} {os : List Od} {s : Nat × Nat} (ok : NetOk p h os) (hh : s.1 < h) : dst p h os s = (wayOf p h os (plc p s)).map fun g => (g.1, s.2 + g.2) := by
  rw [wayOf_plc ok hh]
  exact wayOf_dst ok hh
/-- the table of ways: keys and values -/
def wkv (p : Nat) (ks : List (Nat × Nat)) (f : Nat × Nat → V) : List (List Key × V) := ks.map fun s => (keyOf p s, f s)
def setF (f : Nat × Nat → V) (q : Nat × Nat) (v : V) : Nat × Nat → V := fun s => if s = q then v else f s
theorem key_plc {p : Nat} {s : Nat × Nat} : keyOf p (plc p s) = keyOf p s := keyOf_eq.mpr (plc_plc s)
theorem key_at {p : Nat} {q s : Nat × Nat} (hq : plc p q = q) : keyOf p q = keyOf p s ↔ q = plc p s := by
  rw [keyOf_eq, hq]
theorem wkv_val {p : Nat} {f : Nat × Nat → V} {s : Nat × Nat} : ∀ {ks : List (Nat × Nat)}, (∀ q ∈ ks, plc p q = q) → valV (wkv p ks f) (keyOf p s) = if plc p s ∈ ks then some (f (plc p s)) else none
  | [], _ => rfl
  | q :: ks, h => by
    have hq := h q List.mem_cons_self
    have ih := wkv_val (p := p) (f := f) (s := s) fun r hr => h r (List.mem_cons_of_mem _ hr)
    by_cases c : q = plc p s
    · rw [if_pos (by rw [c]; exact List.mem_cons_self)]
      show valV ((keyOf p q, f q) :: wkv p ks f) (keyOf p s) = _
      rw [valV_pos ((key_at hq).mpr c), c]
    · show valV ((keyOf p q, f q) :: wkv p ks f) (keyOf p s) = _
      rw [valV_neg fun z => c ((key_at hq).mp z), ih]
      by_cases m : plc p s ∈ ks
      · rw [if_pos m, if_pos (List.mem_cons_of_mem _ m)]
      · rw [if_neg m, if_neg fun z => (List.mem_cons.mp z).elim (fun e => c e.symm) m]
theorem wkv_ext {p : Nat} {f g : Nat × Nat → V} {ks : List (Nat × Nat)} (h : ∀ q ∈ ks, f q = g q) : wkv p ks f = wkv p ks g := by
  unfold wkv
  exact List.map_congr_left fun q hq => by rw [h q hq]
theorem wkv_new {p : Nat} {f : Nat × Nat → V} {s : Nat × Nat} {v : V} {ks : List (Nat × Nat)} (h : ∀ q ∈ ks, plc p q = q) (hn : plc p s ∉ ks) : putK (wkv p ks f) (keyOf p s) v = wkv p (ks ++ [plc p s]) (setF f (plc p s) v) := by
  rw [Cp.putK_new (by rw [wkv_val h, if_neg hn])]
  show _ = wkv p (ks ++ [plc p s]) _
  unfold wkv
  rw [List.map_append]
  congr 1
  · exact List.map_congr_left fun q hq => by
      show (keyOf p q, f q) = (keyOf p q, if q = plc p s then v else f q)
      rw [if_neg fun e : q = plc p s => hn (e ▸ hq)]
  · show [(keyOf p s, v)] = [(keyOf p (plc p s), setF f (plc p s) v (plc p s))]
    unfold setF
    rw [if_pos rfl, key_plc]
theorem wkv_old {p : Nat} {f : Nat × Nat → V} {s : Nat × Nat} {v : V} {ks : List (Nat × Nat)} (h : ∀ q ∈ ks, plc p q = q) (hn : plc p s ∈ ks) : putK (wkv p ks f) (keyOf p s) v = wkv p ks (setF f (plc p s) v) := by
  unfold putK
  have e : ((wkv p ks f).any fun kv => decide (kv.1 = keyOf p s)) = true := by
    rw [valV_any, wkv_val h, if_pos hn]
    rfl
  rw [if_pos e]
  unfold wkv
  rw [List.map_map]
  refine List.map_congr_left fun q hq => ?_
  show (if keyOf p q = keyOf p s then (keyOf p q, v) else (keyOf p q, f q)) = (keyOf p q, setF f (plc p s) v q)
  unfold setF
  by_cases c : q = plc p s
  · rw [if_pos ((key_at (h q hq)).mpr c), if_pos c]
  · rw [if_neg fun z => c ((key_at (h q hq)).mp z), if_neg c]
abbrev s_add_ways : Stmt := top 22
abbrev N_add_ways : List Str := ["net", "house", "day", "ways", "trail", "stop", "goal", "arrival", "known", "source", "start"]
abbrev P_add_ways : List Str := ["net", "house", "day", "ways"]
theorem sc_add_ways : FnScope N_add_ways P_add_ways (defScope s_add_ways) := ⟨rfl, rfl, rfl, by decide +kernel, rfl, by decide +kernel, by decide +kernel⟩
abbrev s_find_ways : Stmt := top 21
abbrev N_find_ways : List Str := ["net", "ways", "house", "day"]
abbrev P_find_ways : List Str := ["net"]
theorem sc_find_ways : FnScope N_find_ways P_find_ways (defScope s_find_ways) := ⟨rfl, rfl, rfl, by decide +kernel, rfl, by decide +kernel, by decide +kernel⟩
/-! ### the table of ways -/
structure WaysAt (p h : Nat) (os : List Od) (H : Hp) (d : Addr) (ks : List (Nat × Nat)) (f : Nat × Nat → V) : Prop where
  tab : H d = some (.dT (wkv p ks f))
  nd : ks.Nodup
  ok : ∀ q ∈ ks, q.1 < h ∧ q.2 < p
  ways : ∀ q ∈ ks, OptStop H (f q) (wayOf p h os q)
theorem plc_lt {p : Nat} {q : Nat × Nat} (h : q.2 < p) : plc p q = q := Prod.ext rfl (Nat.mod_eq_of_lt h)
theorem WaysAt.same {p h : Nat} {os : List Od} {H H' : Hp} {d : Addr} {ks : List (Nat × Nat)} {f : Nat × Nat → V} (W : WaysAt p h os H d ks f) (s : Same H H') : WaysAt p h os H' d ks f :=
  ⟨s _ _ W.tab, W.nd, W.ok, fun q hq => (W.ways q hq).keep (tk_of s)⟩
theorem But.tkd {d : Addr} {H H' : Hp} {kvs : List (List Key × V)} (b : But d H H') (hd : H d = some (.dT kvs)) : TupKeep H H' := fun c xs e => b c _ (ne_of e hd (by intro z; cases z)) e
def spAddWays (C : Addr) : Sp := fun vs H Q _ => ∃ (x t d : Addr) (p h hs dy : Nat) (os : List Od) (F : List Addr) (ks : List (Nat × Nat)) (f : Nat × Nat → V), vs = [.ref x, .int hs, .int dy, .ref d] ∧ NetAt C H x p h os t F ∧ NetOk p h os ∧ hs < h ∧ dy < p ∧ d ∉ F ∧
  WaysAt p h os H d ks f ∧ ∀ H' ks' f', But d H H' → WaysAt p h os H' d ks' f' → (∀ q ∈ ks, q ∈ ks') → (hs, dy) ∈ ks' → Q .non H'
/-- the state amid the trail: its stops are the first of the letter's -/
structure TrailAt (p h : Nat) (os : List Od) (H H' : Hp) (d tl : Addr) (st : Nat × Nat) (ks l : List (Nat × Nat)) (ts : List V) (f : Nat × Nat → V) : Prop where
  but : But d H H'
  stp : ∀ j, j < l.length → l[j]? = stp p os j st
  trail : H' tl = some (.lst ts)
  stops : Paired (StopAt H') ts l
  tab : H' d = some (.dT (wkv p (ks ++ l.map (plc p)) f))
  nd : (ks ++ l.map (plc p)).Nodup
  ok : ∀ q ∈ ks, q.1 < h ∧ q.2 < p
  ways : ∀ q ∈ ks, OptStop H' (f q) (wayOf p h os q)
  non : ∀ q ∈ l.map (plc p), f q = .non
section
variable {p h : Nat} {os : List Od} {H H' H2 : Hp} {d tl : Addr} {st : Nat × Nat} {ks l : List (Nat × Nat)} {ts : List V} {f : Nat × Nat → V}
theorem TrailAt.same (T : TrailAt p h os H H' d tl st ks l ts f) (s : Same H' H2) : TrailAt p h os H H2 d tl st ks l ts f :=
  { T with but := T.but.trans (.of s), trail := s _ _ T.trail, stops := StopsAt.keep (tk_of s) T.stops, tab := s _ _ T.tab, ways := fun q hq => (T.ways q hq).keep (tk_of s) }
theorem TrailAt.house (T : TrailAt p h os H H' d tl st ks l ts f) (nok : NetOk p h os) (hh : st.1 < h) : ∀ s ∈ l, s.1 < h := fun s hs => by
  obtain ⟨j, hj⟩ := List.getElem?_of_mem hs
  have lt := (List.getElem?_eq_some_iff.mp hj).1
  exact pst_house nok hh j ((T.stp j lt).symm.trans hj)
theorem TrailAt.len (T : TrailAt p h os H H' d tl st ks l ts f) (nok : NetOk p h os) (hh : st.1 < h) : l.length ≤ h * p :=
  places_bound nok.p1 (T.house nok hh) (List.nodup_append.mp T.nd).2.1
theorem TrailAt.plcs (T : TrailAt p h os H H' d tl st ks l ts f) : ∀ q ∈ ks ++ l.map (plc p), plc p q = q := fun q hq => by
  rcases List.mem_append.mp hq with z | z
  · exact plc_lt (T.ok q z).2
  · obtain ⟨s, _, rfl⟩ := List.mem_map.mp z
    exact plc_plc s
theorem TrailAt.oks (T : TrailAt p h os H H' d tl st ks l ts f) (nok : NetOk p h os) (hh : st.1 < h) : ∀ q ∈ ks ++ l.map (plc p), q.1 < h ∧ q.2 < p := fun q hq => by
  rcases List.mem_append.mp hq with z | z
  · exact T.ok q z
  · obtain ⟨s, hs, rfl⟩ := List.mem_map.mp z
    exact ⟨T.house nok hh s hs, Nat.mod_lt _ nok.p1⟩
theorem TrailAt.keys (T : TrailAt p h os H H' d tl st ks l ts f) (nok : NetOk p h os) (hh : st.1 < h) : (ks ++ l.map (plc p)).length ≤ h * p := by
  have e : (ks ++ l.map (plc p)).map (plc p) = ks ++ l.map (plc p) := by
    rw [List.map_congr_left (g := id) fun q hq => T.plcs q hq, List.map_id]
  exact places_bound nok.p1 (fun s hs => (T.oks nok hh s hs).1) (by rw [e]; exact T.nd)
/-- a stop of the trail is where the letter comes to: so is its end -/
theorem TrailAt.dst (T : TrailAt p h os H H' d tl st ks l ts f) (nok : NetOk p h os) (hh : st.1 < h) {s : Nat × Nat} (hs : s ∈ l) : Cp.dst p h os st = Cp.dst p h os s := by
  obtain ⟨j, hj⟩ := List.getElem?_of_mem hs
  have lt := (List.getElem?_eq_some_iff.mp hj).1
  exact dst_stp nok hh ((T.stp j lt).symm.trans hj)
/-- all that the trail holds chases: the table is right as it is -/
theorem TrailAt.done (T : TrailAt p h os H H' d tl st ks l ts f) (nok : NetOk p h os) (hh : st.1 < h) (e : Cp.dst p h os st = none) : WaysAt p h os H' d (ks ++ l.map (plc p)) f :=
  ⟨T.tab, T.nd, T.oks nok hh, fun q hq => by
    rcases List.mem_append.mp hq with z | z
    · exact T.ways q z
    · rw [T.non q z]
      obtain ⟨s, hs, rfl⟩ := List.mem_map.mp z
      rw [wayOf_plc nok (T.house nok hh s hs)]
      unfold wayOf
      rw [← T.dst nok hh hs, e]
      exact rfl⟩
/-- one stop more -/
theorem TrailAt.more (T : TrailAt p h os H H' d tl st ks l ts f) {c : Nat × Nat} {u : Addr} {xs : List V} (hc : Cp.stp p os l.length st = some c) (hn : plc p c ∉ ks ++ l.map (plc p)) (hu : H' u = some (.tup xs)) (hs : StopAt H' (.ref u) c) (nd : tl ≠ d) (n0 : H tl = none) :
    TrailAt p h os H (upd (upd H' d (.dT (wkv p (ks ++ (l ++ [c]).map (plc p)) (setF f (plc p c) .non)))) tl (.lst (ts ++ [.ref u]))) d tl st ks (l ++ [c]) (ts ++ [.ref u]) (setF f (plc p c) .non) := by
  have k1 : TupKeep H' (upd H' d (.dT (wkv p (ks ++ (l ++ [c]).map (plc p)) (setF f (plc p c) .non)))) := fun b ys e => by
    rw [upd_ne (ne_of e T.tab (by intro z; cases z))]
    exact e
  have htl : (upd H' d (.dT (wkv p (ks ++ (l ++ [c]).map (plc p)) (setF f (plc p c) .non)))) tl = some (.lst ts) := by
    rw [upd_ne nd]
    exact T.trail
  have k2 := k1.trans (TupKeep.lst (o := HO.lst (ts ++ [.ref u])) htl)
  refine ⟨fun b o nb e => ?_, fun j hj => ?_, upd_same, ?_, ?_, ?_, T.ok, fun q hq => ?_, fun q hq => ?_⟩
  · have n2 : b ≠ tl := fun z => by
      rw [z, n0] at e
      cases e
    rw [upd_ne n2, upd_ne nb]
    exact T.but b o nb e
  · rw [List.length_append, List.length_singleton] at hj
    by_cases z : j < l.length
    · rw [List.getElem?_append_left z]
      exact T.stp j z
    · obtain rfl : j = l.length := by omega
      rw [List.getElem?_append_right (Nat.le_refl _), Nat.sub_self, hc]
      rfl
  · exact Paired.snoc (StopsAt.keep k2 T.stops) (hs.keep k2)
  · rw [upd_ne nd.symm, upd_same]
  · rw [List.map_append, ← List.append_assoc, List.nodup_append]
    refine ⟨T.nd, by simp, fun a ha b hb => ?_⟩
    rw [List.map_cons, List.map_nil, List.mem_singleton] at hb
    rw [hb]
    intro e
    exact hn (e ▸ ha)
  · have e : setF f (plc p c) .non q = f q := by
      show (if q = plc p c then _ else _) = _
      rw [if_neg fun z : q = plc p c => hn (z ▸ List.mem_append_left _ hq)]
    rw [e]
    exact (T.ways q hq).keep k2
  · show (if q = plc p c then _ else _) = _
    by_cases z : q = plc p c
    · rw [if_pos z]
    · rw [if_neg z]
      rw [List.map_append] at hq
      rcases List.mem_append.mp hq with y | y
      · exact T.non q y
      · rw [List.map_cons, List.map_nil, List.mem_singleton] at y
        exact absurd y z
end
section
variable {P : Program} {w : World} {K : PySem.W.Frag} {mg : Str → Option Value} {base : Heap}
/-- ways of the trail set one by one -/
structure EndAt (p h : Nat) (os : List Od) (H H' : Hp) (d tl : Addr) (K : List (Nat × Nat)) (l : List (Nat × Nat)) (ts : List V) (j : Nat) (f : Nat × Nat → V) : Prop where
  but : But d H H'
  trail : H' tl = some (.lst ts)
  stops : Paired (StopAt H') ts l
  tab : H' d = some (.dT (wkv p K f))
  ways : ∀ q ∈ K, q ∉ (l.drop j).map (plc p) → OptStop H' (f q) (wayOf p h os q)
theorem ok_add_ways {f C fS : Addr} {fd fdS : FuncData} (F : Fun K "add_ways" "add_ways" s_add_ways f fd) (T : NetT K C) (GS : FnOk P w K mg base CX0 2 fS fdS P_Net_stop_after (spStop C)) (mS : Meth K C "stop_after" fS) (bS : Binds K fdS P_Net_stop_after []) :
    FnOk P w K mg base CX0 3 f fd P_add_ways (spAddWays C) := by
  refine F.ok sc_add_ways (fun vs H Q E h => ?_) (fun cdv A outer s H vs Q E hr h => ?_)
  · obtain ⟨x, t, d, p, h, hs, dy, os, F, ks, f, rfl, _⟩ := h
    rfl
  · obtain ⟨x, t, d, p, h, hs, dy, os, F, ks, f0, rfl, Nt, nok, hh, hdy, ndF, W0, q⟩ := h
    have hu : (A.deeper (PyProof.Rows.envOfC "add_ways" (defScope s_add_ways) s.heap.objs.size f cdv)).units + 1 < cLine := hu_of hr
    have hr1 : Room 2 _ := hr.mono (by decide)
    refine ⟨_, pss_cons (ps_set (i := 4) sc_add_ways.nd rfl (.inl rfl) (pe_lst pa_nil))
      (pss_cons (ps_set (i := 5) sc_add_ways.nd rfl (.inl rfl) (pe_tup (pa_cons (pv 1) (pa_cons (pv 2) pa_nil))))
      (C8.pss_cut (ps_while PassesOwn.never (PW.pt (pw_and (pt_cmpR op_notN (pv 5) pe_non (nomark _)) (pw_and1 (pt_cmp (pc_dnotin hu (pe_tup (pa_cons (pe_ix ix_tup (pv 5) pe_int (fun _ _ => rfl)) (pa_cons (pe_op op_modN (pe_ix ix_tup (pv 5) pe_int (fun _ _ => rfl)) (pe_fld (pv 0) rfl)) pa_nil))) (pv 3))))))
        (pss_cons (ps_dput hu (pv 3) (pe_tup (pa_cons (pe_ix ix_tup (pv 5) pe_int (fun _ _ => rfl)) (pa_cons (pe_op op_modN (pe_ix ix_tup (pv 5) pe_int (fun _ _ => rfl)) (pe_fld (pv 0) rfl)) pa_nil))) pe_non (by rfl))
        (pss_cons (ps_expr (pe_bm PySem.F.plainAttrs_list PySem.F.slot_list_append PySem.F.type_list_append mt_append (pv 4) (pa_cons (pv 5) pa_nil)))
        (pss_one (ps_set (i := 5) sc_add_ways.nd rfl (.inl rfl) (pe_meth (pv 0) T.cl mS GS hr1 bS .nil pass0 (pa_cons (pe_ix ix_tup (pv 5) pe_int (fun _ _ => rfl)) (pa_cons (pe_ix ix_tup (pv 5) pe_int (fun _ _ => rfl)) pa_nil))))))))
      (C8.pss_cut (ps_if (pt_cmpR op_isN (pv 5) pe_non (nomark _))
          (pss_one (ps_asg (pe_ix ix_list (pv 4) (pe_un un_neg pe_int) (fun _ _ => rfl)) (pg_tup (by rfl) (pgs_cons (pg_name (i := 6) sc_add_ways.nd rfl (.inl rfl)) (pgs_cons (pg_name (i := 7) sc_add_ways.nd rfl (.inl rfl)) pgs_nil)))))
          (pss_cons (ps_set (i := 8) sc_add_ways.nd rfl (.inl rfl) (pe_dget hu (pv 3) (pe_tup (pa_cons (pe_ix ix_tup (pv 5) pe_int (fun _ _ => rfl)) (pa_cons (pe_op op_modN (pe_ix ix_tup (pv 5) pe_int (fun _ _ => rfl)) (pe_fld (pv 0) rfl)) pa_nil))) (fun _ _ => rfl)))
          (pss_cons (ps_if (pt_cmpR op_isN (pv 8) pe_non (nomark _)) (pss_one ps_retN) pss_nil)
          (pss_one (ps_par (by rfl) sc_add_ways.nd (i := 6) (j := 7) rfl rfl (by decide) rfl rfl (pa_cons (pe_ix ix_tup (pv 8) pe_int (fun _ _ => rfl)) (pa_cons (pe_op op_add (pe_ix ix_tup (pv 5) pe_int (fun _ _ => rfl)) (pe_ix ix_tup (pv 8) pe_int (fun _ _ => rfl))) pa_nil)) (by rfl))))))
      (pss_one (ps_for PassesOwn.never rfl (pi_list (pv 4)) (pg_tup (by rfl) (pgs_cons (pg_name (i := 9) sc_add_ways.nd rfl (.inl rfl)) (pgs_cons (pg_name (i := 10) sc_add_ways.nd rfl (.inl rfl)) pgs_nil)))
        (pss_one (ps_dput hu (pv 3) (pe_tup (pa_cons (pv 9) (pa_cons (pe_op op_modN (pv 10) (pe_fld (pv 0) rfl)) pa_nil))) (pe_tup (pa_cons (pv 6) (pa_cons (pe_op op_sub (pv 7) (pv 10)) pa_nil))) (by rfl)))))))), ?_⟩
    have hp : 0 < p := nok.p1
    have p30 := nok.p30; have h10 := nok.h10
    have big : h * p ≤ 300 := Nat.mul_le_mul h10 p30
    refine ⟨Nat.zero_le _, fun tl ntl => ?_⟩
    refine ⟨_, rfl, _, rfl, (by show 2 ≤ sizeLine; decide), fun u0 nu0 => ?_⟩
    have s1 := same_upd (o := HO.lst []) ntl
    have s2 := same_upd (o := HO.tup [.int hs, .int dy]) nu0
    have s12 := s1.trans s2
    have ntd : tl ≠ d := (ne_of_none W0.tab ntl).symm
    have htl0 : (upd (upd H tl (.lst [])) u0 (.tup [.int hs, .int dy])) tl = some (.lst []) := s2 _ _ upd_same
    have hu0 : (upd (upd H tl (.lst [])) u0 (.tup [.int hs, .int dy])) u0 = some (.tup [.int hs, .int dy]) := upd_same
    generalize (upd (upd H tl (.lst [])) u0 (.tup [.int hs, .int dy])) = H0 at s12 htl0 hu0
    have T0 : TrailAt p h os H H0 d tl (hs, dy) ks [] [] f0 := ⟨.of s12, fun j z => absurd z (Nat.not_lt_zero _), htl0, .nil, by rw [List.map_nil, List.append_nil]; exact s12 _ _ W0.tab, by rw [List.map_nil, List.append_nil]; exact W0.nd, W0.ok, fun q hq => (W0.ways q hq).keep (tk_of s12), fun q hq => by cases hq⟩
    have netT : ∀ {H' : Hp}, But d H H' → NetAt C H' x p h os t F := fun b => Nt.but b (b.tkd W0.tab) ndF
    refine ⟨fun σ' H' => ∃ (l : List (Nat × Nat)) (ts : List V) (f : Nat × Nat → V) (v : V) (cur : Option (Nat × Nat)), σ' = [some (.ref x), some (.int hs), some (.int dy), some (.ref d), some (.ref tl), some v, none, none, none, none, none] ∧
        TrailAt p h os H H' d tl (hs, dy) ks l ts f ∧ stp p os l.length (hs, dy) = cur ∧ OptStop H' v cur ∧ (∀ c, cur = some c → plc p c ∈ ks ++ l.map (plc p)), ?_, ?_⟩
    · refine ⟨fun m σ' H' => ∃ (l : List (Nat × Nat)) (ts : List V) (f : Nat × Nat → V) (v : V) (cur : Option (Nat × Nat)), l.length + m = h * p ∧ σ' = [some (.ref x), some (.int hs), some (.int dy), some (.ref d), some (.ref tl), some v, none, none, none, none, none] ∧
        TrailAt p h os H H' d tl (hs, dy) ks l ts f ∧ stp p os l.length (hs, dy) = cur ∧ OptStop H' v cur, ⟨h * p, [], [], f0, _, some (hs, dy), by simp, rfl, T0, rfl, ⟨u0, rfl, hu0⟩⟩, ?_⟩
      rintro m σ' H1 ⟨l, ts, f, v, cur, hm, rfl, T1, hcur, hv⟩
      have N1 := netT T1.but
      obtain ⟨dx, _, _, _, hx, _⟩ := id N1
      refine ⟨_, rfl, rfl, _, rfl, ?_⟩
      cases cur with
      | none =>
        obtain rfl : v = .non := hv
        exact iteF (iteF ⟨l, ts, f, _, none, rfl, T1, hcur, rfl, fun c z => by cases z⟩)
      | some c =>
        obtain ⟨u, rfl, hu⟩ := hv
        have hc1 : c.1 < h := pst_house nok hh _ hcur
        refine iteT ⟨_, rfl, u, _, 0, _, rfl, rfl, SqT.of hu, atI_nat (j := 0) rfl, _, rfl, u, _, 1, _, rfl, rfl, SqT.of hu, atI_nat (j := 1) rfl, _, rfl, x, C, dx, _, _, rfl, hx, T.cl, T.nP, nf_pe, _, _, rfl, rfl, by omega, (by show 2 ≤ sizeLine; decide), fun pl npl => ?_⟩
        have s3 := same_upd (o := HO.tup [.int c.1, .int ((c.2 : Int).fmod (p : Int))]) npl
        have hpl : (upd H1 pl (.tup [.int c.1, .int ((c.2 : Int).fmod (p : Int))])) pl = some (.tup ((keyOf p c).map kV)) := by
          rw [upd_same, fmod_nat]
          rfl
        have T2 := T1.same s3
        have hu2 := s3 _ _ hu
        generalize (upd H1 pl (.tup [.int c.1, .int ((c.2 : Int).fmod (p : Int))])) = H2 at s3 hpl T2 hu2
        refine ⟨_, rfl, d, _, rfl, DGet.t T2.tab hpl, ?_⟩
        rw [wkv_val T2.plcs]
        by_cases hin : plc p c ∈ ks ++ l.map (plc p)
        · rw [if_pos hin]
          exact ⟨_, rfl, iteF ⟨l, ts, f, _, some c, rfl, T2, hcur, ⟨u, rfl, hu2⟩, fun c' e => by cases e; exact hin⟩⟩
        · rw [if_neg hin]
          refine ⟨_, rfl, iteT ?_⟩
          have hlen := T2.len nok hh
          have hkl := T2.keys nok hh
          have N2 := netT T2.but
          obtain ⟨dx2, _, _, _, hx2, _⟩ := id N2
          -- what the turn leaves
          refine ⟨fun σ' H' => ∃ (ts' : List V) (f' : Nat × Nat → V) (v : V), σ' = [some (.ref x), some (.int hs), some (.int dy), some (.ref d), some (.ref tl), some v, none, none, none, none, none] ∧ TrailAt p h os H H' d tl (hs, dy) ks (l ++ [c]) ts' f' ∧ OptStop H' v (hop p os c), ?_, ?_⟩
          · rintro σ' H' ⟨ts', f', v, rfl, T', hv'⟩
            have hl' := T'.len nok hh
            rw [List.length_append, List.length_singleton] at hl'
            refine ⟨m - 1, by omega, l ++ [c], ts', f', v, hop p os c, by rw [List.length_append, List.length_singleton]; omega, rfl, T', ?_, hv'⟩
            rw [List.length_append, List.length_singleton]
            show (stp p os l.length (hs, dy)).bind (hop p os) = _
            rw [hcur]
            rfl
          -- ways[..] = None
          refine ⟨_, rfl, _, rfl, u, _, 0, _, rfl, rfl, SqT.of hu2, atI_nat (j := 0) rfl, _, rfl, u, _, 1, _, rfl, rfl, SqT.of hu2, atI_nat (j := 1) rfl, _, rfl, x, C, dx2, _, _, rfl, hx2, T.cl, T.nP, nf_pe, _, _, rfl, rfl, by omega, (by show 2 ≤ sizeLine; decide), fun pm npm => ?_⟩
          have s4 := same_upd (o := HO.tup [.int c.1, .int ((c.2 : Int).fmod (p : Int))]) npm
          have hpm : (upd H2 pm (.tup [.int c.1, .int ((c.2 : Int).fmod (p : Int))])) pm = some (.tup ((keyOf p c).map kV)) := by
            rw [upd_same, fmod_nat]
            rfl
          have T3 := T2.same s4
          have hu3 := s4 _ _ hu2
          generalize (upd H2 pm (.tup [.int c.1, .int ((c.2 : Int).fmod (p : Int))])) = H3 at s4 hpm T3 hu3
          have Tm := T3.more (u := u) hcur hin hu3 ⟨u, rfl, hu3⟩ ntd ntl
          have hkn : (wkv p (ks ++ l.map (plc p)) f).length < sizeLine := by
            unfold wkv
            rw [List.length_map]
            exact small1000 (by omega)
          refine ⟨d, _, rfl, DPut.t T3.tab hpm hkn, ?_⟩
          rw [wkv_new T3.plcs hin, show (ks ++ l.map (plc p)) ++ [plc p c] = ks ++ (l ++ [c]).map (plc p) by rw [List.map_append, List.append_assoc]; rfl]
          have htl4 : (upd H3 d (.dT (wkv p (ks ++ (l ++ [c]).map (plc p)) (setF f (plc p c) .non)))) tl = some (.lst ts) := by
            rw [upd_ne ntd]
            exact T3.trail
          refine ⟨_, rfl, .inl ⟨rfl, _, SqL.of htl4⟩, _, rfl, tl, _, _, rfl, rfl, htl4, ?_, ?_⟩
          · have := T3.stops.length
            exact small1000 (by omega)
          have N4 := netT Tm.but
          obtain ⟨u', e4, hu5⟩ := (pair_last Tm.stops : StopAt _ (.ref u) c)
          obtain rfl : u = u' := by cases e4; rfl
          generalize (upd (upd H3 d (.dT (wkv p (ks ++ (l ++ [c]).map (plc p)) (setF f (plc p c) .non)))) tl (.lst (ts ++ [.ref u]))) = H4 at Tm N4 hu5
          obtain ⟨dx4, _, _, _, hx4, _⟩ := id N4
          refine ⟨_, rfl, x, dx4, _, rfl, hx4, nf_no (by decide +kernel) (by decide +kernel) (by decide +kernel) (by decide +kernel), _, rfl, u, _, 0, _, rfl, rfl, SqT.of hu5, atI_nat (j := 0) rfl, _, rfl, u, _, 1, _, rfl, rfl, SqT.of hu5, atI_nat (j := 1) rfl, ?_⟩
          refine ⟨x, t, p, h, c.1, c.2, os, F, rfl, N4, hp, hc1, fun H5 v s5 hv5 => ⟨_, _, v, rfl, Tm.same s5, ?_⟩⟩
          cases e : hop p os c with
          | none =>
            rw [show hop p os (c.1, c.2) = none from e] at hv5
            exact hv5
          | some c' =>
            rw [show hop p os (c.1, c.2) = some c' from e] at hv5
            obtain ⟨y, e1, _, e2⟩ := hv5
            exact ⟨y, e1, e2⟩
    · rintro σ' H1 ⟨l, ts, f, v, cur, rfl, T1, hcur, hv, hin⟩
      have hks : ∀ q ∈ ks, q ∈ ks ++ l.map (plc p) := fun q hq => List.mem_append_left _ hq
      have memK : (hs, dy) ∈ ks ++ l.map (plc p) := by
        have e0 : plc p (hs, dy) = (hs, dy) := plc_lt hdy
        by_cases z : l.length = 0
        · rw [z] at hcur
          have := hin (hs, dy) hcur.symm
          rw [e0] at this
          exact this
        · have h0 := T1.stp 0 (by omega)
          exact List.mem_append_right _ (List.mem_map.mpr ⟨(hs, dy), List.mem_of_getElem? (h0.trans rfl), e0⟩)
      have N1 := netT T1.but
      obtain ⟨dx, _, _, _, hx, _⟩ := id N1
      refine ⟨fun σ' H' => ∃ (ts : List V) (f : Nat × Nat → V) (x8 : Option V) (g : Nat × Nat), σ' = [some (.ref x), some (.int hs), some (.int dy), some (.ref d), some (.ref tl), some v, some (.int g.1), some (.int g.2), x8, none, none] ∧
          TrailAt p h os H H' d tl (hs, dy) ks l ts f ∧ dst p h os (hs, dy) = some g, ⟨_, rfl, rfl, _, rfl, ?_⟩, ?_⟩
      · cases cur with
        | none =>
          obtain rfl : v = .non := hv
          have hne : l ≠ [] := fun z => by
            rw [z] at hcur
            cases hcur
          obtain ⟨l', c, rfl⟩ : ∃ l' c, l = l' ++ [c] := ⟨l.dropLast, l.getLast hne, (List.dropLast_concat_getLast hne).symm⟩
          obtain ⟨ts', v', rfl, _, u, rfl, hu⟩ := pair_split T1.stops
          have hc : stp p os l'.length (hs, dy) = some c := by
            rw [← T1.stp l'.length (by rw [List.length_append, List.length_singleton]; omega), List.getElem?_append_right (Nat.le_refl _), Nat.sub_self]
            rfl
          have hg : dst p h os (hs, dy) = some c := (dst_iff nok hh).mpr ⟨_, hc, by
            rw [List.length_append, List.length_singleton] at hcur
            have e : (stp p os l'.length (hs, dy)).bind (hop p os) = none := hcur
            rw [hc] at e
            exact e⟩
          refine iteT ⟨_, rfl, 1, rfl, tl, _, -1, _, rfl, rfl, SqL.of T1.trail, atI_last _ _, ?_⟩
          exact ⟨u, _, rfl, SqT.of hu, rfl, _, _, rfl, _, _, rfl, rfl, _, f, none, c, rfl, T1, hg⟩
        | some c =>
          obtain ⟨u, rfl, hu⟩ := hv
          have hin := hin c rfl
          have hc1 : c.1 < h := pst_house nok hh _ hcur
          have hdc := dst_stp nok hh hcur
          refine iteF ⟨_, rfl, _, rfl, u, _, 0, _, rfl, rfl, SqT.of hu, atI_nat (j := 0) rfl, _, rfl, u, _, 1, _, rfl, rfl, SqT.of hu, atI_nat (j := 1) rfl, _, rfl, x, C, dx, _, _, rfl, hx, T.cl, T.nP, nf_pe, _, _, rfl, rfl, by omega, (by show 2 ≤ sizeLine; decide), fun pl npl => ?_⟩
          have s3 := same_upd (o := HO.tup [.int c.1, .int ((c.2 : Int).fmod (p : Int))]) npl
          have hpl : (upd H1 pl (.tup [.int c.1, .int ((c.2 : Int).fmod (p : Int))])) pl = some (.tup ((keyOf p c).map kV)) := by
            rw [upd_same, fmod_nat]
            rfl
          have T2 := T1.same s3
          have hu2 := s3 _ _ hu
          generalize (upd H1 pl (.tup [.int c.1, .int ((c.2 : Int).fmod (p : Int))])) = H2 at s3 hpl T2 hu2
          have hg := DGet.t T2.tab hpl
          rw [wkv_val T2.plcs, if_pos hin] at hg
          refine ⟨d, _, rfl, hg, ?_⟩
          refine ⟨_, rfl, rfl, _, rfl, ?_⟩
          -- what is known of this place
          have know : (f (plc p c) = .non ∧ dst p h os (hs, dy) = none) ∨ ∃ (z : Addr) (g : Nat × Nat), f (plc p c) = .ref z ∧ H2 z = some (.tup [.int g.1, .int g.2]) ∧ dst p h os (hs, dy) = some (g.1, c.2 + g.2) := by
            rcases List.mem_append.mp hin with z | z
            · have hw := T2.ways _ z
              have hd2 := dst_way nok hc1
              cases e : wayOf p h os (plc p c) with
              | none =>
                rw [e] at hw hd2
                exact .inl ⟨hw, hdc.trans hd2⟩
              | some g =>
                rw [e] at hw hd2
                obtain ⟨y, e1, e2⟩ := hw
                exact .inr ⟨y, g, e1, e2, hdc.trans hd2⟩
            · refine .inl ⟨T2.non _ z, ?_⟩
              obtain ⟨s, hs1, hs2⟩ := List.mem_map.mp z
              obtain ⟨j, hj⟩ := List.getElem?_of_mem hs1
              have lt := (List.getElem?_eq_some_iff.mp hj).1
              have hsj := (T2.stp j lt).symm.trans hj
              have e1 : j + (l.length - j - 1 + 1) = l.length := by omega
              have more := stp_more (b := c) nok hsj (k := l.length - j - 1) (by rw [e1]; exact hcur)
              have e2 : stp p os (l.length - j) s = some c := by
                have := hcur
                rw [show l.length = j + (l.length - j) by omega, stp_add, hsj] at this
                exact this
              have hk : c = shf (p * (c.2 / p - s.2 / p)) s := by
                have h1 : s.1 = c.1 := (Prod.mk.inj hs2).1
                have h2 : s.2 % p = c.2 % p := (Prod.mk.inj hs2).2
                refine Prod.ext h1.symm ?_
                show c.2 = s.2 + p * (c.2 / p - s.2 / p)
                have a1 := Nat.div_add_mod c.2 p
                have a2 := Nat.div_add_mod s.2 p
                have a3 : s.2 / p ≤ c.2 / p := Nat.div_le_div_right (Nat.le_of_lt more)
                rw [Nat.mul_sub]
                have a4 : p * (s.2 / p) ≤ p * (c.2 / p) := Nat.mul_le_mul_left _ a3
                omega
              have pos : 0 < p * (c.2 / p - s.2 / p) := by
                have h3 : c.2 = s.2 + p * (c.2 / p - s.2 / p) := congrArg Prod.snd hk
                omega
              rw [hk] at e2
              rw [T2.dst nok hh hs1]
              exact dst_cycle nok (pst_house nok hh j hsj) e2 pos
          rcases know with ⟨e1, e2⟩ | ⟨z, g, e1, e2, e3⟩
          · rw [e1]
            exact iteT (q H2 _ f T2.but (T2.done nok hh e2) hks memK)
          · rw [e1]
            refine iteF ⟨_, rfl, z, _, 0, _, rfl, rfl, SqT.of e2, atI_nat (j := 0) rfl, _, rfl, u, _, 1, _, rfl, rfl, SqT.of hu2, atI_nat (j := 1) rfl, _, rfl, z, _, 1, _, rfl, rfl, SqT.of e2, atI_nat (j := 1) rfl, _, _, rfl, rfl, ?_⟩
            refine ⟨_, _, rfl, _, f, some (.ref z), (g.1, c.2 + g.2), ?_, T2, e3⟩
            show _ = [some (.ref x), some (.int hs), some (.int dy), some (.ref d), some (.ref tl), some (V.ref u), some (.int g.1), some (.int ((c.2 + g.2 : Nat) : Int)), some (.ref z), none, none]
            rw [Int.natCast_add]
            rfl
      · rintro σ' H2 ⟨ts, f, x8, g, rfl, T2, hg⟩
        have hTl := T2.stops.length
        refine ⟨_, rfl, tl, rfl, ⟨_, SqL.of T2.trail⟩, ?_⟩
        refine for_list (K := K) (a := tl) (xs := ts) (fun j σ H' => (∃ x9 x10, σ = [some (.ref x), some (.int hs), some (.int dy), some (.ref d), some (.ref tl), some v, some (.int g.1), some (.int g.2), x8, x9, x10]) ∧ ∃ f, EndAt p h os H H' d tl (ks ++ l.map (plc p)) l ts j f)
          ⟨⟨_, _, rfl⟩, f, ⟨T2.but, T2.trail, T2.stops, T2.tab, fun q hq hn => ?_⟩⟩ (fun j σ H' _ ⟨_, f, E'⟩ => SqL.of E'.trail) ?_ ?_
        · rcases List.mem_append.mp hq with z | z
          · exact T2.ways q z
          · exact absurd z hn
        · rintro j v' σ H3 hj ⟨⟨x9, x10, rfl⟩, f, E3⟩
          have lt : j < l.length := by
            rw [← hTl]
            exact (List.getElem?_eq_some_iff.mp hj).1
          have ej := List.getElem?_eq_getElem lt
          obtain ⟨v'', hv'', u, e0, hu⟩ := Paired.get? (i := j) E3.stops ej
          obtain rfl : v'' = v' := Option.some.inj (hv''.symm.trans hj)
          subst e0
          have hsm : l[j] ∈ l := List.getElem_mem lt
          have hdr : l.drop j = l[j] :: l.drop (j + 1) := List.drop_eq_getElem_cons lt
          generalize l[j] = sj at ej hu hsm hdr
          have hdj := T2.dst nok hh hsm
          have hhj := T2.house nok hh sj hsm
          rw [hg] at hdj
          have hle := dst_le nok hhj hdj.symm
          obtain ⟨dx3, _, _, _, hx3, _⟩ := id (netT E3.but)
          refine ⟨u, _, rfl, SqT.of hu, rfl, _, _, rfl, _, _, rfl, rfl, ?_⟩
          refine ⟨_, rfl, _, rfl, _, rfl, _, _, rfl, rfl, (by show 2 ≤ sizeLine; decide), fun y ny => ?_⟩
          have s4 := same_upd (o := HO.tup [.int g.1, .int ((g.2 : Int) - (sj.2 : Int))]) ny
          have hy : (upd H3 y (.tup [.int g.1, .int ((g.2 : Int) - (sj.2 : Int))])) y = some (.tup [.int g.1, .int ((g.2 - sj.2 : Nat) : Int)]) := by
            rw [upd_same, show ((g.2 : Int) - (sj.2 : Int)) = ((g.2 - sj.2 : Nat) : Int) by omega]
          have hx4 := s4 _ _ hx3
          generalize (upd H3 y (.tup [.int g.1, .int ((g.2 : Int) - (sj.2 : Int))])) = H4 at s4 hy hx4
          refine ⟨_, rfl, _, rfl, _, rfl, _, rfl, x, C, dx3, _, _, rfl, hx4, T.cl, T.nP, nf_pe, _, _, rfl, rfl, by omega, (by show 2 ≤ sizeLine; decide), fun pk npk => ?_⟩
          have s5 := same_upd (o := HO.tup [.int sj.1, .int ((sj.2 : Int).fmod (p : Int))]) npk
          have hpk : (upd H4 pk (.tup [.int sj.1, .int ((sj.2 : Int).fmod (p : Int))])) pk = some (.tup ((keyOf p sj).map kV)) := by
            rw [upd_same, fmod_nat]
            rfl
          have s45 := s4.trans s5
          have hy5 := s5 _ _ hy
          generalize (upd H4 pk (.tup [.int sj.1, .int ((sj.2 : Int).fmod (p : Int))])) = H5 at s45 hpk hy5
          have htab := s45 _ _ E3.tab
          have hkl := T2.keys nok hh
          have hkn : (wkv p (ks ++ l.map (plc p)) f).length < sizeLine := by
            unfold wkv
            rw [List.length_map]
            exact small1000 (by omega)
          refine ⟨d, _, rfl, DPut.t htab hpk hkn, ?_⟩
          rw [wkv_old T2.plcs (List.mem_append_right _ (List.mem_map.mpr ⟨sj, hsm, rfl⟩))]
          have k6 : TupKeep H5 (upd H5 d (.dT (wkv p (ks ++ l.map (plc p)) (setF f (plc p sj) (.ref y))))) := fun b ys e => by
            rw [upd_ne (ne_of e htab (by intro z; cases z))]
            exact e
          have k36 := (tk_of s45).trans k6
          refine ⟨⟨_, _, rfl⟩, setF f (plc p sj) (.ref y), ⟨(E3.but.trans (.of s45)).trans .upd, ?_, StopsAt.keep k36 E3.stops, upd_same, fun q hq hn => ?_⟩⟩
          · rw [upd_ne ntd]
            exact s45 _ _ E3.trail
          · show OptStop _ (if q = plc p sj then _ else _) _
            by_cases z : q = plc p sj
            · rw [if_pos z, z, wayOf_plc nok hhj]
              unfold wayOf
              rw [← hdj]
              exact ⟨y, rfl, k6 _ _ hy5⟩
            · rw [if_neg z]
              refine (E3.ways q hq ?_).keep k36
              rw [hdr]
              intro z2
              rcases List.mem_cons.mp z2 with e | e
              · exact z e
              · exact hn e
        · rintro σ H3 ⟨_, f, E3⟩
          rw [hTl] at E3
          refine q H3 _ f E3.but ⟨E3.tab, T2.nd, T2.oks nok hh, fun q hq => E3.ways q hq ?_⟩ hks memK
          rw [List.drop_eq_nil_iff.mpr (Nat.le_refl _)]
          intro z
          cases z
end
def spFindWays (C : Addr) : Sp := fun vs H Q _ => ∃ (x t : Addr) (p h : Nat) (os : List Od) (F : List Addr), vs = [.ref x] ∧ NetAt C H x p h os t F ∧ NetOk p h os ∧
  ∀ H' d ks f, Same H H' → H d = none → WaysAt p h os H' d ks f → (∀ q, q ∈ ks ↔ q ∈ lets p h) → Q (.ref d) H'
section
variable {P : Program} {w : World} {K : PySem.W.Frag} {mg : Str → Option Value} {base : Heap}
theorem ok_find_ways {f C : Addr} {fd : FuncData} (F : Fun K "find_ways" "find_ways" s_find_ways f fd) (DL : Df P w K mg base "letters" 2 P_letters (spLets C)) (DA : Df P w K mg base "add_ways" 3 P_add_ways (spAddWays C)) :
    FnOk P w K mg base CX0 4 f fd P_find_ways (spFindWays C) := by
  obtain ⟨fL, fdL, gL, kL, bL, GL⟩ := DL
  obtain ⟨fA, fdA, gA, kA, bA, GA⟩ := DA
  refine F.ok sc_find_ways (fun vs H Q E h => ?_) (fun cdv A outer s H vs Q E hr h => ?_)
  · obtain ⟨x, t, p, h, os, F, rfl, _⟩ := h
    rfl
  · obtain ⟨x, t, p, h, os, F, rfl, Nt, nok, q⟩ := h
    refine ⟨_, pss_cons (ps_set (i := 1) sc_find_ways.nd rfl (.inl rfl) pe_dnewT)
      (pss_cons (ps_for PassesOwn.never rfl (pi_list (pe_call GL (hr.mono (by decide)) (by rfl) gL kL bL .nil pass0 (pa_cons (pv 0) pa_nil))) (pg_tup (by rfl) (pgs_cons (pg_name (i := 2) sc_find_ways.nd rfl (.inl rfl)) (pgs_cons (pg_name (i := 3) sc_find_ways.nd rfl (.inl rfl)) pgs_nil)))
        (pss_one (ps_expr (pe_call GA hr (by rfl) gA kA bA .nil pass0 (pa_cons (pv 0) (pa_cons (pv 2) (pa_cons (pv 3) (pa_cons (pv 1) pa_nil))))))))
      (pss_one (ps_ret (pv 1)))), ?_⟩
    refine fun d nd => ?_
    have s1 := same_upd (o := HO.dT []) nd
    have ndF : d ∉ F := Nt.new nd
    refine ⟨_, rfl, x, t, p, h, os, F, rfl, Nt.same s1, nok, fun H1 r ws s2 nr hr1 hws => ?_⟩
    have hlen := hws.length
    have s12 := s1.trans s2
    have hd1 : H1 d = some (.dT []) := s2 _ _ upd_same
    have nrd : r ≠ d := (ne_of_none (upd_same (H := H)) nr).symm
    have N1 := Nt.same s12
    refine ⟨r, rfl, ⟨_, SqL.of hr1⟩, ?_⟩
    refine for_list (K := K) (a := r) (xs := ws) (fun i σ H' => (∃ x2 x3, σ = [some (.ref x), some (.ref d), x2, x3]) ∧ But d H1 H' ∧ ∃ ks f, WaysAt p h os H' d ks f ∧ ∀ q ∈ (lets p h).take i, q ∈ ks)
      ⟨⟨_, _, rfl⟩, .refl, [], fun _ => .non, ⟨hd1, List.nodup_nil, (fun q hq => by cases hq), (fun q hq => by cases hq)⟩, (fun q hq => by cases hq)⟩ (fun i σ H' _ ⟨_, b', _⟩ => SqL.of (b' r _ nrd hr1)) ?_ ?_
    · rintro i v σ H2 hi ⟨⟨x2, x3, rfl⟩, b2, ks, f, W2, hk⟩
      have lt : i < (lets p h).length := by
        rw [← hlen]
        exact (List.getElem?_eq_some_iff.mp hi).1
      have ei := List.getElem?_eq_getElem lt
      obtain ⟨v', hv', u, e0, hu⟩ := Paired.get? (i := i) hws ei
      obtain rfl : v' = v := Option.some.inj (hv'.symm.trans hi)
      subst e0
      have hm := mem_lets.mp (List.getElem_mem lt)
      generalize (lets p h)[i] = st at ei hu hm
      have k2 : TupKeep H1 H2 := b2.tkd hd1
      refine ⟨u, _, rfl, SqT.of (k2 _ _ hu), rfl, _, _, rfl, _, _, rfl, rfl, ?_⟩
      refine ⟨_, rfl, _, rfl, _, rfl, _, rfl, x, t, d, p, h, st.1, st.2, os, F, ks, f, rfl, N1.but b2 k2 ndF, nok, hm.1, hm.2, ndF, W2, fun H3 ks' f' b3 W3 sub mem => ?_⟩
      refine ⟨⟨_, _, rfl⟩, b2.trans b3, ks', f', W3, fun q hq => ?_⟩
      rw [List.take_add_one, ei] at hq
      rcases List.mem_append.mp hq with z | z
      · exact sub q (hk q z)
      · rw [Option.toList_some, List.mem_singleton] at z
        rw [z]
        exact mem
    · rintro σ H2 ⟨⟨x2, x3, rfl⟩, b2, ks, f, W2, hk⟩
      refine ⟨_, rfl, q H2 d ks f (fun b o e => b2 b o (ne_of_none e nd) (s12 _ _ e)) nd W2 fun z => ⟨fun hz => mem_lets.mpr (W2.ok z hz), fun hz => hk z ?_⟩⟩
      rw [hlen, List.take_of_length_le (Nat.le_refl _)]
      exact hz
end
abbrev s_ways_to : Stmt := top 28
abbrev N_ways_to : List Str := ["net", "goal", "ways", "found", "house", "day", "way"]
abbrev P_ways_to : List Str := ["net", "goal"]
theorem sc_ways_to : FnScope N_ways_to P_ways_to (defScope s_ways_to) := ⟨rfl, rfl, rfl, by decide +kernel, rfl, by decide +kernel, by decide +kernel⟩
/-! ### the letters of the first period that come to a goal -/
def toG (p h : Nat) (os : List Od) (g : Nat) (s : Nat × Nat) : Option (Nat × Nat × Nat) := match wayOf p h os s with
  | none => none
  | some w => if w.1 = g then some (s.1, s.2, w.2) else none
def TripAt (H : Hp) (v : V) (s : Nat × Nat × Nat) : Prop := ∃ u, v = .ref u ∧ H u = some (.tup [.int s.1, .int s.2.1, .int s.2.2])
theorem TripAt.keep {H H' : Hp} {v : V} {s : Nat × Nat × Nat} (k : TupKeep H H') (h : TripAt H v s) : TripAt H' v s := by
  obtain ⟨u, e, hu⟩ := h
  exact ⟨u, e, k _ _ hu⟩
theorem TripsAt.keep {H H' : Hp} {vs : List V} {l : List (Nat × Nat × Nat)} (k : TupKeep H H') (h : Paired (TripAt H) vs l) : Paired (TripAt H') vs l := Paired.mapP h fun _ _ q => q.keep k
def toGs (p h : Nat) (os : List Od) (g : Nat) : List (Nat × Nat × Nat) := (lets p h).filterMap (toG p h os g)
theorem take_fm {α β : Type} {f : α → Option β} {l : List α} {i : Nat} {q : α} (e : l[i]? = some q) : (l.take (i + 1)).filterMap f = (l.take i).filterMap f ++ (f q).toList := by
  rw [List.take_add_one, e, List.filterMap_append]
  cases h : f q <;> simp [h]
theorem toGs_len {p h : Nat} {os : List Od} {g : Nat} : (toGs p h os g).length ≤ h * p := by
  rw [← lets_len]
  exact List.length_filterMap_le _ _
def spWaysTo (C : Addr) : Sp := fun vs H Q _ => ∃ (x t : Addr) (p h g : Nat) (os : List Od) (F : List Addr), vs = [.ref x, .int g] ∧ NetAt C H x p h os t F ∧ NetOk p h os ∧
  ∀ H' r ws, Same H H' → H r = none → H' r = some (.lst ws) → Paired (TripAt H') ws (toGs p h os g) → Q (.ref r) H'
section
variable {P : Program} {w : World} {K : PySem.W.Frag} {mg : Str → Option Value} {base : Heap}
theorem ok_ways_to {f C : Addr} {fd : FuncData} (F : Fun K "ways_to" "ways_to" s_ways_to f fd) (DL : Df P w K mg base "letters" 2 P_letters (spLets C)) (DW : Df P w K mg base "find_ways" 4 P_find_ways (spFindWays C)) :
    FnOk P w K mg base CX0 5 f fd P_ways_to (spWaysTo C) := by
  obtain ⟨fL, fdL, gL, kL, bL, GL⟩ := DL
  obtain ⟨fW, fdW, gW, kW, bW, GW⟩ := DW
  refine F.ok sc_ways_to (fun vs H Q E h => ?_) (fun cdv A outer s H vs Q E hr h => ?_)
  · obtain ⟨x, t, p, h, g, os, F, rfl, _⟩ := h
    rfl
  · obtain ⟨x, t, p, h, g, os, F, rfl, Nt, nok, q⟩ := h
    have hu : (A.deeper (PyProof.Rows.envOfC "ways_to" (defScope s_ways_to) s.heap.objs.size f cdv)).units + 1 < cLine := hu_of hr
    refine ⟨_, pss_cons (ps_set (i := 2) sc_ways_to.nd rfl (.inl rfl) (pe_call GW hr (by rfl) gW kW bW .nil pass0 (pa_cons (pv 0) pa_nil)))
      (pss_cons (ps_set (i := 3) sc_ways_to.nd rfl (.inl rfl) (pe_lst pa_nil))
      (pss_cons (ps_for PassesOwn.never rfl (pi_list (pe_call GL (hr.mono (by decide)) (by rfl) gL kL bL .nil pass0 (pa_cons (pv 0) pa_nil))) (pg_tup (by rfl) (pgs_cons (pg_name (i := 4) sc_ways_to.nd rfl (.inl rfl)) (pgs_cons (pg_name (i := 5) sc_ways_to.nd rfl (.inl rfl)) pgs_nil)))
        (pss_cons (ps_set (i := 6) sc_ways_to.nd rfl (.inl rfl) (pe_dget hu (pv 2) (pe_tup (pa_cons (pv 4) (pa_cons (pv 5) pa_nil))) (fun _ _ => rfl)))
        (pss_one (ps_if (PW.pt (pw_and (pt_cmpR op_notN (pv 6) pe_non (nomark _)) (pw_and1 (pt_cmpR op_eq (pe_ix ix_tup (pv 6) pe_int (fun _ _ => rfl)) (pv 1) (nomark _)))))
          (pss_one (ps_expr (pe_bm PySem.F.plainAttrs_list PySem.F.slot_list_append PySem.F.type_list_append mt_append (pv 3) (pa_cons (pe_tup (pa_cons (pv 4) (pa_cons (pv 5) (pa_cons (pe_ix ix_tup (pv 6) pe_int (fun _ _ => rfl)) pa_nil)))) pa_nil)))) pss_nil))))
      (pss_one (ps_ret (pv 3))))), ?_⟩
    have p30 := nok.p30; have h10 := nok.h10
    have big : h * p ≤ 300 := Nat.mul_le_mul h10 p30
    refine ⟨_, rfl, x, t, p, h, os, F, rfl, Nt, nok, fun H1 d ks f s1 nd W1 hks => ?_⟩
    refine ⟨Nat.zero_le _, fun fo nfo => ?_⟩
    have s2 := same_upd (o := HO.lst []) nfo
    have s12 := s1.trans s2
    have nfo0 : H fo = none := s1.free nfo
    refine ⟨_, rfl, x, t, p, h, os, F, rfl, Nt.same s12, nok, fun H2 r ws s3 nr hr2 hws => ?_⟩
    have hlen := hws.length
    have W2 := (W1.same s2).same s3
    have hfo2 : H2 fo = some (.lst []) := s3 _ _ upd_same
    have nrf : r ≠ fo := (ne_of_none (upd_same (H := H1)) nr).symm
    have ndf : d ≠ fo := ne_of_none W1.tab nfo
    refine ⟨r, rfl, ⟨_, SqL.of hr2⟩, ?_⟩
    refine for_list (K := K) (a := r) (xs := ws) (fun i σ H' => (∃ x4 x5 x6, σ = [some (.ref x), some (.int g), some (.ref d), some (.ref fo), x4, x5, x6]) ∧ But fo H2 H' ∧ ∃ us, H' fo = some (.lst us) ∧ Paired (TripAt H') us (((lets p h).take i).filterMap (toG p h os g)))
      ⟨⟨_, _, _, rfl⟩, .refl, [], hfo2, .nil⟩ (fun i σ H' _ ⟨_, b', _⟩ => SqL.of (b' r _ nrf hr2)) ?_ ?_
    · rintro i v σ H3 hi ⟨⟨x4, x5, x6, rfl⟩, b3, us, hfo3, hus⟩
      have lt : i < (lets p h).length := by
        rw [← hlen]
        exact (List.getElem?_eq_some_iff.mp hi).1
      have ei := List.getElem?_eq_getElem lt
      obtain ⟨v', hv', u, e0, hu⟩ := Paired.get? (i := i) hws ei
      obtain rfl : v' = v := Option.some.inj (hv'.symm.trans hi)
      subst e0
      have hmem := List.getElem_mem lt
      have hm := mem_lets.mp hmem
      generalize (lets p h)[i] = st at ei hu hm hmem
      have k3 : TupKeep H2 H3 := fun b xs e => b3 b _ (ne_of e hfo2 (by intro z; cases z)) e
      refine ⟨u, _, rfl, SqT.of (k3 _ _ hu), rfl, _, _, rfl, _, _, rfl, rfl, ?_⟩
      refine ⟨_, rfl, _, rfl, _, rfl, (by show 2 ≤ sizeLine; decide), fun pk npk => ?_⟩
      have s4 := same_upd (o := HO.tup [.int st.1, .int st.2]) npk
      have hpk : (upd H3 pk (.tup [.int st.1, .int st.2])) pk = some (.tup ((keyOf p st).map kV)) := by
        rw [upd_same]
        show some (HO.tup [V.int st.1, V.int st.2]) = some (HO.tup [V.int st.1, V.int ((st.2 % p : Nat) : Int)])
        rw [Nat.mod_eq_of_lt hm.2]
      have hd4 := s4 _ _ (b3 d _ ndf W2.tab)
      have hfo4 := s4 _ _ hfo3
      have hus4 := TripsAt.keep (tk_of s4) hus
      have k4 : TupKeep H2 _ := k3.trans (tk_of s4)
      have b4 : But fo H2 _ := b3.trans (.of s4)
      generalize (upd H3 pk (.tup [.int st.1, .int st.2])) = H4 at s4 hpk hd4 hfo4 hus4 k4 b4
      have hg := DGet.t hd4 hpk
      have hin : plc p st ∈ ks := by rw [plc_lt hm.2]; exact (hks st).mpr hmem
      rw [wkv_val fun q hq => plc_lt (W2.ok q hq).2, if_pos hin] at hg
      have hw := (W2.ways _ hin).keep k4
      rw [plc_lt hm.2] at hg hw
      refine ⟨d, _, rfl, hg, ?_⟩
      have hul : us.length ≤ h * p := by
        rw [hus.length]
        refine Nat.le_trans (List.length_filterMap_le _ _) ?_
        rw [List.length_take, lets_len]
        omega
      have none_end : toG p h os g st = none → (fun σ H' => (∃ x4 x5 x6, σ = [some (.ref x), some (.int g), some (.ref d), some (.ref fo), x4, x5, x6]) ∧ But fo H2 H' ∧ ∃ us, H' fo = some (.lst us) ∧ Paired (TripAt H') us (((lets p h).take (i + 1)).filterMap (toG p h os g)) : L2.St → Hp → Prop)
          [some (.ref x), some (.int g), some (.ref d), some (.ref fo), some (.int st.1), some (.int st.2), some (f st)] H4 := fun e => by
        refine ⟨⟨_, _, _, rfl⟩, b4, us, hfo4, ?_⟩
        rw [take_fm ei, e, Option.toList_none, List.append_nil]
        exact hus4
      refine ⟨_, rfl, rfl, _, rfl, ?_⟩
      cases e : wayOf p h os st with
      | none =>
        rw [e] at hw
        have hw : f st = .non := hw
        rw [hw]
        refine iteF (iteF ?_)
        have := none_end (by unfold toG; rw [e])
        rw [hw] at this
        exact this
      | some y =>
        rw [e] at hw
        obtain ⟨z, ez, hz⟩ := hw
        rw [ez]
        refine iteT ⟨_, rfl, z, _, 0, _, rfl, rfl, SqT.of hz, atI_nat (j := 0) rfl, _, rfl, rfl, _, rfl, ite2 (fun c => ?_) (fun c => ?_)⟩
        · have eg : y.1 = g := by
            have q2 := V.int.inj (of_decide_eq_true c)
            omega
          refine ⟨_, rfl, .inl ⟨rfl, _, SqL.of hfo4⟩, _, rfl, _, rfl, _, rfl, z, _, 1, _, rfl, rfl, SqT.of hz, atI_nat (j := 1) rfl, (by show 3 ≤ sizeLine; decide), fun y3 ny3 => ?_⟩
          have s5 := same_upd (o := HO.tup [.int st.1, .int st.2, .int y.2]) ny3
          have hfo5 := s5 _ _ hfo4
          have ny3f : y3 ≠ fo := (ne_of_none hfo4 ny3).symm
          refine ⟨fo, _, _, rfl, rfl, hfo5, small1000 (by omega), ⟨_, _, _, rfl⟩, (b4.trans (.of s5)).trans .upd, _, upd_same, ?_⟩
          have k6 : TupKeep _ _ := (tk_of s5).trans (TupKeep.lst (o := HO.lst (us ++ [.ref y3])) hfo5)
          rw [take_fm ei]
          have et : toG p h os g st = some (st.1, st.2, y.2) := by
            unfold toG
            rw [e]
            show (if y.1 = g then _ else _) = _
            rw [if_pos eg]
          rw [et]
          exact Paired.snoc (TripsAt.keep k6 hus4) ⟨y3, rfl, by rw [upd_ne ny3f, upd_same]⟩
        · have := none_end (by
            unfold toG
            rw [e]
            show (if y.1 = g then _ else _) = _
            rw [if_neg fun z => c (decide_eq_true (by rw [z]))])
          rw [ez] at this
          exact this
    · rintro σ H3 ⟨⟨x4, x5, x6, rfl⟩, b3, us, hfo3, hus⟩
      rw [hlen, List.take_of_length_le (Nat.le_refl _)] at hus
      refine ⟨_, rfl, q H3 fo us (fun b o e => b3 b o (ne_of_none e nfo0) (s3 _ _ (s12 _ _ e))) nfo0 hfo3 hus⟩
end
/-! ### days of posting: plain mathematics -/
/-- the latest day of posting, of those that differ from d by periods, for an arrival by the day -/
def post (p day d n : Nat) : Int := ((day : Int) - n) - (((day : Int) - n) - d).fmod p
theorem post_spec {p day d n : Nat} (hp : 0 < p) : post p day d n ≤ (day : Int) - n ∧ (∃ k : Int, post p day d n = d + p * k) ∧ ∀ (t : Int), t ≤ (day : Int) - n → (∃ k : Int, t = d + p * k) → t ≤ post p day d n := by
  unfold post
  have hp' : (0 : Int) < p := by omega
  rw [Int.fmod_eq_emod_of_nonneg _ (Int.le_of_lt hp')]
  have a1 := Int.emod_nonneg ((day : Int) - n - d) (Int.ne_of_gt hp')
  have a2 := Int.emod_lt_of_pos ((day : Int) - n - d) hp'
  have a3 := Int.mul_ediv_add_emod ((day : Int) - n - d) p
  refine ⟨by omega, ⟨((day : Int) - n - d) / p, by omega⟩, ?_⟩
  rintro t ht ⟨k, rfl⟩
  have h1 : (p : Int) * k < p * (((day : Int) - n - d) / p + 1) := by
    rw [Int.mul_add, Int.mul_one]
    omega
  have h2 : k < ((day : Int) - n - d) / p + 1 := Int.lt_of_mul_lt_mul_left h1 (Int.le_of_lt hp')
  have h3 : (p : Int) * k ≤ p * (((day : Int) - n - d) / p) := Int.mul_le_mul_of_nonneg_left (by omega) (Int.le_of_lt hp')
  omega
theorem toG_some {p h g : Nat} {os : List Od} {s : Nat × Nat} {z : Nat × Nat × Nat} : toG p h os g s = some z ↔ wayOf p h os s = some (g, z.2.2) ∧ z = (s.1, s.2, z.2.2) := by
  unfold toG
  cases e : wayOf p h os s with
  | none => simp
  | some w =>
    show (if w.1 = g then some (s.1, s.2, w.2) else none) = some z ↔ _
    constructor
    · intro q
      by_cases c : w.1 = g
      · rw [if_pos c] at q
        cases q
        exact ⟨by rw [← c], rfl⟩
      · rw [if_neg c] at q
        cases q
    · rintro ⟨q1, q2⟩
      obtain rfl := Option.some.inj q1
      rw [if_pos rfl, q2]
theorem mem_toGs {p h g : Nat} {os : List Od} {z : Nat × Nat × Nat} : z ∈ toGs p h os g ↔ z.1 < h ∧ z.2.1 < p ∧ wayOf p h os (z.1, z.2.1) = some (g, z.2.2) := by
  unfold toGs
  rw [List.mem_filterMap]
  constructor
  · rintro ⟨s, hs, e⟩
    obtain ⟨h1, h2⟩ := toG_some.mp e
    have h3 := mem_lets.mp hs
    rw [h2]
    exact ⟨h3.1, h3.2, h1⟩
  · rintro ⟨h1, h2, h3⟩
    exact ⟨(z.1, z.2.1), mem_lets.mpr ⟨h1, h2⟩, toG_some.mpr ⟨h3, rfl⟩⟩
/-- a letter's goal, by the way of its place -/
theorem dst_of_way {p h g n hs d t : Nat} {os : List Od} (ok : NetOk p h os) (hh : hs < h) (e : wayOf p h os (hs, d) = some (g, n)) (ht : t % p = d) : dst p h os (hs, t) = some (g, t + n) := by
  rw [dst_way ok (s := (hs, t)) hh]
  show (wayOf p h os (hs, t % p)).map _ = _
  rw [ht, e]
  rfl
theorem way_of_dst {p h g a hs t : Nat} {os : List Od} (ok : NetOk p h os) (hh : hs < h) (e : dst p h os (hs, t) = some (g, a)) : wayOf p h os (hs, t % p) = some (g, a - t) ∧ t ≤ a := by
  have hle := dst_le ok (st := (hs, t)) hh e
  refine ⟨?_, hle⟩
  have := wayOf_plc ok (s := (hs, t)) hh
  show wayOf p h os (plc p (hs, t)) = _
  rw [this]
  unfold wayOf
  rw [e]
  rfl
def LastP (p h : Nat) (os : List Od) (hs g day : Nat) (v : V) : Prop :=
  (v = .non ∧ ∀ t a, dst p h os (hs, t) = some (g, a) → day < a) ∨ ∃ t a : Nat, v = .int t ∧ dst p h os (hs, t) = some (g, a) ∧ a ≤ day ∧ ∀ t' a', dst p h os (hs, t') = some (g, a') → a' ≤ day → t' ≤ t
theorem LastP.uniq {p h hs g day : Nat} {os : List Od} {v v' : V} (a : LastP p h os hs g day v) (b : LastP p h os hs g day v') : v = v' := by
  rcases a with ⟨rfl, a1⟩ | ⟨t, x, rfl, a1, a2, a3⟩
  · rcases b with ⟨rfl, _⟩ | ⟨t', x', rfl, b1, b2, _⟩
    · rfl
    · have := a1 _ _ b1
      omega
  · rcases b with ⟨rfl, b1⟩ | ⟨t', x', rfl, b1, b2, b3⟩
    · have := b1 _ _ a1
      omega
    · have h1 := a3 _ _ b1 b2
      have h2 := b3 _ _ a1 a2
      rw [show t = t' by omega]
/-- the days of posting that are found -/
def postSel (p day hs : Nat) (z : Nat × Nat × Nat) : Option Int := if z.1 = hs ∧ 0 ≤ post p day z.2.1 z.2.2 then some (post p day z.2.1 z.2.2) else none
theorem posts_spec {p h hs g day : Nat} {os : List Od} (ok : NetOk p h os) (hh : hs < h) :
    (∀ m ∈ (toGs p h os g).filterMap (postSel p day hs), ∃ t a : Nat, m = t ∧ dst p h os (hs, t) = some (g, a) ∧ a ≤ day) ∧
    ∀ t a, dst p h os (hs, t) = some (g, a) → a ≤ day → ∃ m ∈ (toGs p h os g).filterMap (postSel p day hs), (t : Int) ≤ m := by
  have hp := ok.p1
  refine ⟨fun m hm => ?_, fun t a e ha => ?_⟩
  · obtain ⟨z, hz, e⟩ := List.mem_filterMap.mp hm
    obtain ⟨h1, h2, h3⟩ := mem_toGs.mp hz
    unfold postSel at e
    by_cases c : z.1 = hs ∧ 0 ≤ post p day z.2.1 z.2.2
    · rw [if_pos c] at e
      obtain rfl := Option.some.inj e
      obtain ⟨b1, ⟨k, b2⟩, _⟩ := post_spec (p := p) (day := day) (d := z.2.1) (n := z.2.2) hp
      generalize post p day z.2.1 z.2.2 = m at c b1 b2
      obtain ⟨t, rfl⟩ : ∃ t : Nat, m = t := ⟨m.toNat, by omega⟩
      have ht : t % p = z.2.1 := by
        have e1 : ((t : Int)) % p = z.2.1 := by
          rw [b2, Int.add_mul_emod_self_left]
          exact Int.emod_eq_of_lt (by omega) (by omega)
        omega
      refine ⟨t, t + z.2.2, rfl, dst_of_way ok hh (by rw [← c.1]; exact h3) ht, by omega⟩
    · rw [if_neg c] at e
      cases e
  · obtain ⟨e1, e2⟩ := way_of_dst ok hh e
    have hz : (hs, t % p, a - t) ∈ toGs p h os g := mem_toGs.mpr ⟨hh, Nat.mod_lt _ hp, e1⟩
    obtain ⟨b1, b2, b3⟩ := post_spec (p := p) (day := day) (d := t % p) (n := a - t) hp
    have h1 := b3 t (by omega) ⟨((t / p : Nat) : Int), by
      have := Nat.mod_add_div t p
      have e3 : ((t % p + p * (t / p) : Nat) : Int) = t := by rw [this]
      rw [Int.natCast_add, Int.natCast_mul] at e3
      exact e3.symm⟩
    refine ⟨post p day (t % p) (a - t), List.mem_filterMap.mpr ⟨_, hz, ?_⟩, h1⟩
    show (if _ then _ else _) = _
    rw [if_pos ⟨rfl, by show 0 ≤ post p day (t % p) (a - t); omega⟩]
/-- the stops at which letters of a day are posted -/
def sendSel (p day : Nat) (z : Nat × Nat × Nat) : Option (Nat × Nat) := if z.2.2 ≤ day ∧ (day - z.2.2) % p = z.2.1 then some (z.1, day - z.2.2) else none
theorem sends_mem {p h g day : Nat} {os : List Od} (ok : NetOk p h os) {s : Nat × Nat} : s ∈ (toGs p h os g).filterMap (sendSel p day) ↔ s.1 < h ∧ dst p h os s = some (g, day) := by
  rw [List.mem_filterMap]
  constructor
  · rintro ⟨z, hz, e⟩
    obtain ⟨h1, h2, h3⟩ := mem_toGs.mp hz
    unfold sendSel at e
    by_cases c : z.2.2 ≤ day ∧ (day - z.2.2) % p = z.2.1
    · rw [if_pos c] at e
      obtain rfl := Option.some.inj e
      refine ⟨h1, ?_⟩
      have := dst_of_way ok h1 h3 c.2
      rw [this]
      congr 2
      omega
    · rw [if_neg c] at e
      cases e
  · rintro ⟨h1, e⟩
    obtain ⟨e1, e2⟩ := way_of_dst ok (hs := s.1) (t := s.2) h1 e
    refine ⟨(s.1, s.2 % p, day - s.2), mem_toGs.mpr ⟨h1, Nat.mod_lt _ ok.p1, e1⟩, ?_⟩
    unfold sendSel
    have e3 : day - (day - s.2) = s.2 := by omega
    show (if day - s.2 ≤ day ∧ (day - (day - s.2)) % p = s.2 % p then some (s.1, day - (day - s.2)) else none) = _
    rw [if_pos ⟨by omega, by rw [e3]⟩, e3]
theorem sends_nd {p h g day : Nat} {os : List Od} : ((toGs p h os g).filterMap (sendSel p day)).Nodup := by
  unfold toGs
  rw [List.filterMap_filterMap]
  refine List.Pairwise.filterMap _ ?_ lets_pw
  intro s s' lt b hb b' hb' e
  have key : ∀ {s b : Nat × Nat}, (toG p h os g s).bind (sendSel p day) = some b → s.1 = b.1 ∧ s.2 = b.2 % p := by
    intro s b hb
    obtain ⟨z, h1, h2⟩ := Option.bind_eq_some_iff.mp hb
    obtain ⟨_, h3⟩ := toG_some.mp h1
    unfold sendSel at h2
    by_cases c : z.2.2 ≤ day ∧ (day - z.2.2) % p = z.2.1
    · rw [if_pos c] at h2
      obtain rfl := Option.some.inj h2
      refine ⟨(congrArg Prod.fst h3).symm, ?_⟩
      show s.2 = (day - z.2.2) % p
      rw [c.2]
      exact (congrArg (fun z : Nat × Nat × Nat => z.2.1) h3).symm
    · rw [if_neg c] at h2
      cases h2
  have k1 := key hb
  have k2 := key hb'
  rw [← e] at k2
  have i1 := ltS_iff.mp lt
  omega
/-- in strict order, with these members: there is one such list -/
theorem sorted_uniq {l l' : List (Nat × Nat)} (h : l.Pairwise fun a b => ltS a b = true) (h' : l'.Pairwise fun a b => ltS a b = true) (e : ∀ s, s ∈ l ↔ s ∈ l') : l = l' := by
  have irr : ∀ s : Nat × Nat, ltS s s = false := fun s => ltS_no.mpr (by omega)
  have nd : ∀ {l : List (Nat × Nat)}, l.Pairwise (fun a b => ltS a b = true) → l.Nodup := fun h => List.Pairwise.imp (fun {a b} q e => by
    rw [e, irr] at q
    cases q) h
  have hp : l.Perm l' := (List.perm_ext_iff_of_nodup (nd h) (nd h')).mpr e
  refine List.Perm.eq_of_pairwise (le := fun a b => ltS a b = true) (fun a b _ _ h1 h2 => ?_) h h' hp
  have i1 := ltS_iff.mp h1
  have i2 := ltS_iff.mp h2
  omega
/-! numbers of deliveries -/
/-- whether a letter comes to a goal -/
def comes (p h : Nat) (os : List Od) (g : Nat) (s : Nat × Nat) : Bool := decide ((dst p h os s).map Prod.fst = some g)
def cntTo (p h : Nat) (os : List Od) (hs g n : Nat) : Nat := ((List.range n).filter fun t => comes p h os g (hs, t)).length
theorem comes_plc {p h g : Nat} {os : List Od} {s : Nat × Nat} (ok : NetOk p h os) (hh : s.1 < h) : comes p h os g (plc p s) = comes p h os g s := by
  unfold comes
  congr 2
  rw [dst_plc ok hh, Option.map_map]
  rfl
theorem comes_way {p h g : Nat} {os : List Od} {s : Nat × Nat} : comes p h os g s = decide ((wayOf p h os s).map Prod.fst = some g) := by
  unfold comes wayOf
  rw [Option.map_map]
  rfl
theorem cntTo_succ {p h hs g n : Nat} {os : List Od} : cntTo p h os hs g (n + 1) = cntTo p h os hs g n + if comes p h os g (hs, n) = true then 1 else 0 := by
  unfold cntTo
  rw [filter_range_succ', List.length_append]
  congr 1
  split <;> rfl
/-- the days of the period on which letters from a house come to the goal -/
def dsOf (p h : Nat) (os : List Od) (hs g : Nat) : List Nat := (lets p h).filterMap fun s => if s.1 = hs ∧ comes p h os g s = true then some s.2 else none
theorem mem_dsOf {p h hs g d : Nat} {os : List Od} : d ∈ dsOf p h os hs g ↔ hs < h ∧ d < p ∧ comes p h os g (hs, d) = true := by
  unfold dsOf
  rw [List.mem_filterMap]
  constructor
  · rintro ⟨s, hs1, e⟩
    have h3 := mem_lets.mp hs1
    by_cases c : s.1 = hs ∧ comes p h os g s = true
    · rw [if_pos c] at e
      obtain rfl := Option.some.inj e
      rw [← c.1]
      exact ⟨h3.1, h3.2, c.2⟩
    · rw [if_neg c] at e
      cases e
  · rintro ⟨h1, h2, h3⟩
    exact ⟨(hs, d), mem_lets.mpr ⟨h1, h2⟩, by rw [if_pos ⟨rfl, h3⟩]⟩
theorem dsOf_nd {p h hs g : Nat} {os : List Od} : (dsOf p h os hs g).Nodup := by
  refine List.Pairwise.filterMap _ ?_ lets_pw
  intro s s' lt b hb b' hb' e
  have key : ∀ {s : Nat × Nat} {b : Nat}, (if s.1 = hs ∧ comes p h os g s = true then some s.2 else none) = some b → s = (hs, b) := by
    intro s b hb
    by_cases c : s.1 = hs ∧ comes p h os g s = true
    · rw [if_pos c] at hb
      obtain rfl := Option.some.inj hb
      exact Prod.ext c.1 rfl
    · rw [if_neg c] at hb
      cases hb
  have k1 := key hb
  have k2 := key hb'
  have i1 := ltS_iff.mp lt
  rw [k1, k2, e] at i1
  omega
def cdays (p d : Nat) (l : Int) : Int := (l - d).fdiv p + 1
theorem cdays_neg {p d : Nat} (hd : d < p) : cdays p d (-1) = 0 := by
  unfold cdays
  rw [Int.fdiv_eq_ediv_of_nonneg _ (by omega)]
  have : (-1 - (d : Int)) / p = -1 := by
    rw [Int.ediv_eq_iff_of_pos (by omega)]
    omega
  omega
theorem cdays_step {p d n : Nat} (hd : d < p) : cdays p d (n : Int) = cdays p d ((n : Int) - 1) + if n % p = d then 1 else 0 := by
  unfold cdays
  have hp : (0 : Int) < p := by omega
  rw [Int.fdiv_eq_ediv_of_nonneg _ (by omega), Int.fdiv_eq_ediv_of_nonneg _ (by omega)]
  have hn : ((n % p : Nat) : Int) = (n : Int) % p := Int.natCast_emod n p
  have hr := Int.mul_ediv_add_emod (n : Int) p
  have hlt := Int.emod_lt_of_pos (n : Int) hp
  have h0 := Int.emod_nonneg (n : Int) (Int.ne_of_gt hp)
  have key : ∀ (x q : Int), p * q ≤ x → x < p * q + p → x / p = q := fun x q a b => by
    rw [Int.ediv_eq_iff_of_pos hp]
    rw [Int.mul_comm]
    omega
  by_cases c : n % p = d
  · rw [if_pos c]
    have c' : (n : Int) % p = d := by omega
    rw [key ((n : Int) - d) ((n : Int) / p) (by omega) (by omega), key ((n : Int) - 1 - d) ((n : Int) / p - 1) (by rw [Int.mul_sub, Int.mul_one]; omega) (by rw [Int.mul_sub, Int.mul_one]; omega)]
    omega
  · rw [if_neg c]
    have c' : (n : Int) % p ≠ d := by omega
    by_cases lt : (n : Int) % p < d
    · rw [key ((n : Int) - d) ((n : Int) / p - 1) (by rw [Int.mul_sub, Int.mul_one]; omega) (by rw [Int.mul_sub, Int.mul_one]; omega), key ((n : Int) - 1 - d) ((n : Int) / p - 1) (by rw [Int.mul_sub, Int.mul_one]; omega) (by rw [Int.mul_sub, Int.mul_one]; omega)]
      omega
    · rw [key ((n : Int) - d) ((n : Int) / p) (by omega) (by omega), key ((n : Int) - 1 - d) ((n : Int) / p) (by omega) (by omega)]
      omega
theorem sum_ite {m : Nat} : ∀ {l : List Nat}, l.Nodup → (l.map fun d => if m = d then (1 : Int) else 0).sum = if m ∈ l then 1 else 0
  | [], _ => by simp
  | d :: l, nd => by
    rw [List.nodup_cons] at nd
    rw [List.map_cons, List.sum_cons, sum_ite nd.2]
    by_cases c : m = d
    · rw [if_pos c, if_neg (by rw [c]; exact nd.1), if_pos (by rw [c]; exact List.mem_cons_self)]
      rfl
    · rw [if_neg c]
      by_cases c2 : m ∈ l
      · rw [if_pos c2, if_pos (List.mem_cons_of_mem _ c2)]
        rfl
      · rw [if_neg c2, if_neg (fun z => (List.mem_cons.mp z).elim c c2)]
        rfl
theorem sum_add {f g : Nat → Int} : ∀ {l : List Nat}, (l.map fun d => f d + g d).sum = (l.map f).sum + (l.map g).sum
  | [] => rfl
  | d :: l => by
    rw [List.map_cons, List.map_cons, List.map_cons, List.sum_cons, List.sum_cons, List.sum_cons, sum_add]
    omega
theorem cnt_sum {p h hs g : Nat} {os : List Od} (ok : NetOk p h os) (hh : hs < h) : ∀ n : Nat, ((dsOf p h os hs g).map fun d => cdays p d ((n : Int) - 1)).sum = (cntTo p h os hs g n : Nat)
  | 0 => by
    have e : ((dsOf p h os hs g).map fun d => cdays p d (((0 : Nat) : Int) - 1)) = (dsOf p h os hs g).map fun _ => (0 : Int) := List.map_congr_left fun d hd => by
      show cdays p d (-1) = 0
      exact cdays_neg (mem_dsOf.mp hd).2.1
    rw [e]
    have : ∀ l : List Nat, (l.map fun _ => (0 : Int)).sum = 0 := fun l => by
      induction l with
      | nil => rfl
      | cons _ _ ih => rw [List.map_cons, List.sum_cons, ih]; rfl
    rw [this]
    rfl
  | n + 1 => by
    have e : ((dsOf p h os hs g).map fun d => cdays p d (((n + 1 : Nat) : Int) - 1)) = (dsOf p h os hs g).map fun d => cdays p d ((n : Int) - 1) + if n % p = d then 1 else 0 := List.map_congr_left fun d hd => by
      rw [← cdays_step (mem_dsOf.mp hd).2.1]
      congr 1
      omega
    rw [e, sum_add, cnt_sum ok hh n, sum_ite dsOf_nd, cntTo_succ, Int.natCast_add]
    congr 1
    have hp := ok.p1
    have iff : n % p ∈ dsOf p h os hs g ↔ comes p h os g (hs, n) = true := by
      rw [mem_dsOf, ← comes_plc ok (s := (hs, n)) hh]
      exact ⟨fun q => q.2.2, fun q => ⟨hh, Nat.mod_lt _ hp, q⟩⟩
    by_cases c : comes p h os g (hs, n) = true
    · rw [if_pos c, if_pos (iff.mpr c)]
      rfl
    · rw [if_neg c, if_neg (fun z => c (iff.mp z))]
      rfl
def cntSel (p hs : Nat) (a b : Int) (z : Nat × Nat × Nat) : Option Int := if z.1 = hs then some (cdays p z.2.1 b - cdays p z.2.1 a) else none
theorem counts_eq {p h hs g : Nat} {os : List Od} {a b : Int} : (toGs p h os g).filterMap (cntSel p hs a b) = (dsOf p h os hs g).map fun d => cdays p d b - cdays p d a := by
  unfold toGs dsOf
  rw [List.filterMap_filterMap, List.map_filterMap]
  congr 1
  funext s
  rw [comes_way]
  unfold toG
  cases e : wayOf p h os s with
  | none => simp
  | some w =>
    show ((if w.1 = g then some (s.1, s.2, w.2) else none).bind (cntSel p hs a b)) = _
    by_cases c : w.1 = g
    · rw [if_pos c]
      show cntSel p hs a b (s.1, s.2, w.2) = _
      unfold cntSel
      by_cases c2 : s.1 = hs <;> simp [c, c2]
    · rw [if_neg c]
      by_cases c2 : s.1 = hs <;> simp [c, c2]
theorem counts_sum {p h hs g first last : Nat} {os : List Od} (ok : NetOk p h os) (hh : hs < h) : ((toGs p h os g).filterMap (cntSel p hs ((first : Int) - 1) last)).sum = (cntTo p h os hs g (last + 1) : Nat) - (cntTo p h os hs g first : Nat) := by
  rw [counts_eq]
  have e1 := cnt_sum (g := g) ok hh (last + 1)
  have e2 := cnt_sum (g := g) ok hh first
  have e3 : ((dsOf p h os hs g).map fun d => cdays p d (last : Int) - cdays p d ((first : Int) - 1)).sum + ((dsOf p h os hs g).map fun d => cdays p d ((first : Int) - 1)).sum = ((dsOf p h os hs g).map fun d => cdays p d (((last + 1 : Nat) : Int) - 1)).sum := by
    rw [← sum_add]
    congr 2
    funext d
    rw [show (((last + 1 : Nat) : Int) - 1) = last by omega]
    omega
  omega
abbrev s_last_posting : Stmt := top 26
abbrev N_last_posting : List Str := ["net", "house", "goal", "day", "postings", "source", "start", "days", "latest", "posting"]
abbrev P_last_posting : List Str := ["net", "house", "goal", "day"]
theorem sc_last_posting : FnScope N_last_posting P_last_posting (defScope s_last_posting) := ⟨rfl, rfl, rfl, by decide +kernel, rfl, by decide +kernel, by decide +kernel⟩
/-! ### the last day of posting -/
def spLastPost (C : Addr) : Sp := fun vs H Q _ => ∃ (x t : Addr) (p h hs g day : Nat) (os : List Od) (F : List Addr), vs = [.ref x, .int hs, .int g, .int day] ∧ NetAt C H x p h os t F ∧ NetOk p h os ∧ hs < h ∧ g < h ∧ day ≤ 1000000000000000000 ∧
  ∀ H' v, Same H H' → LastP p h os hs g day v → Q v H'
section
variable {P : Program} {w : World} {K : PySem.W.Frag} {mg : Str → Option Value} {base : Heap}
theorem ok_last_posting {f C : Addr} {fd : FuncData} (F : Fun K "last_posting" "last_posting" s_last_posting f fd) (T : NetT K C) (zm : mg "max" = none) (DH : Df P w K mg base "check_house" 3 P_check_house (spHouse C)) (DL : Df P w K mg base "check_letter" 4 P_check_letter (spLetter C))
    (DW : Df P w K mg base "ways_to" 5 P_ways_to (spWaysTo C)) : FnOk P w K mg base CX0 6 f fd P_last_posting (spLastPost C) := by
  obtain ⟨fH, fdH, gH, kH, bH, GH⟩ := DH
  obtain ⟨fL, fdL, gL, kL, bL, GL⟩ := DL
  obtain ⟨fW, fdW, gW, kW, bW, GW⟩ := DW
  refine F.ok sc_last_posting (fun vs H Q E h => ?_) (fun cdv A outer s H vs Q E hr h => ?_)
  · obtain ⟨x, t, p, h, hs, g, day, os, F, rfl, _⟩ := h
    rfl
  · obtain ⟨x, t, p, h, hs, g, day, os, F, rfl, Nt, nok, hh, hg, hd, q⟩ := h
    have hu : (A.deeper (PyProof.Rows.envOfC "last_posting" (defScope s_last_posting) s.heap.objs.size f cdv)).units + 65 < cLine := by
      have := hr.un
      omega
    refine ⟨_, pss_cons (ps_expr (pe_call GH (hr.mono (by decide)) (by rfl) gH kH bH .nil pass0 (pa_cons (pv 0) (pa_cons (pv 1) pa_nil))))
      (pss_cons (ps_expr (pe_call GL (hr.mono (by decide)) (by rfl) gL kL bL .nil pass0 (pa_cons (pv 0) (pa_cons (pv 2) (pa_cons (pv 3) pa_nil)))))
      (pss_cons (ps_set (i := 4) sc_last_posting.nd rfl (.inl rfl) (pe_lst pa_nil))
      (pss_cons (ps_for PassesOwn.never rfl (pi_list (pe_call GW hr (by rfl) gW kW bW .nil pass0 (pa_cons (pv 0) (pa_cons (pv 2) pa_nil))))
          (pg_tup (by rfl) (pgs_cons (pg_name (i := 5) sc_last_posting.nd rfl (.inl rfl)) (pgs_cons (pg_name (i := 6) sc_last_posting.nd rfl (.inl rfl)) (pgs_cons (pg_name (i := 7) sc_last_posting.nd rfl (.inl rfl)) pgs_nil))))
        (pss_cons (ps_set (i := 8) sc_last_posting.nd rfl (.inl rfl) (pe_op op_sub (pv 3) (pv 7)))
        (pss_cons (ps_set (i := 9) sc_last_posting.nd rfl (.inl rfl) (pe_op op_sub (pv 8) (pe_op op_modN (pe_op op_sub (pv 8) (pv 6)) (pe_fld (pv 0) rfl))))
        (pss_one (ps_if (PW.pt (pw_and (pt_cmpR op_eq (pv 5) (pv 1) (nomark _)) (pw_and1 (pt_cmpR op_ge (pv 9) pe_int (nomark _)))))
          (pss_one (ps_expr (pe_bm PySem.F.plainAttrs_list PySem.F.slot_list_append PySem.F.type_list_append mt_append (pv 4) (pa_cons (pv 9) pa_nil)))) pss_nil)))))
      (pss_one (ps_ret (pe_callBK (cr_maxDef rfl hu) (by rfl) zm PyProof.Rows.boot_max (pa_cons (pv 4) pa_nil) (pk_cons pe_non pk_nil))))))), ?_⟩
    have p30 := nok.p30; have h10 := nok.h10; have hp := nok.p1
    have big : h * p ≤ 300 := Nat.mul_le_mul h10 p30
    refine ⟨_, rfl, _, rfl, x, t, p, h, hs, os, F, rfl, Nt, hh, ?_⟩
    refine ⟨_, rfl, _, rfl, _, rfl, x, t, p, h, g, day, os, F, rfl, Nt, hg, hd, ?_⟩
    refine ⟨Nat.zero_le _, fun fo nfo => ?_⟩
    have s1 := same_upd (o := HO.lst []) nfo
    refine ⟨_, rfl, _, rfl, x, t, p, h, g, os, F, rfl, Nt.same s1, nok, fun H1 r ws s2 nr hr1 hws => ?_⟩
    have hlen := hws.length
    have hfo1 : H1 fo = some (.lst []) := s2 _ _ upd_same
    have nrf : r ≠ fo := (ne_of_none (upd_same (H := H)) nr).symm
    have N1 := (Nt.same s1).same s2
    have nfF : fo ∉ F := Nt.new nfo
    refine ⟨r, rfl, ⟨_, SqL.of hr1⟩, ?_⟩
    refine for_list (K := K) (a := r) (xs := ws) (fun i σ H' => (∃ x5 x6 x7 x8 x9, σ = [some (.ref x), some (.int hs), some (.int g), some (.int day), some (.ref fo), x5, x6, x7, x8, x9]) ∧ H' = upd H1 fo (.lst ((((toGs p h os g).take i).filterMap (postSel p day hs)).map V.int)))
      ⟨⟨_, _, _, _, _, rfl⟩, ?_⟩ (fun i σ H' _ ⟨_, e⟩ => SqL.of (by rw [e, upd_ne nrf]; exact hr1)) ?_ ?_
    · funext b
      by_cases z : b = fo
      · rw [z, upd_same, hfo1]
        rfl
      · rw [upd_ne z]
    · rintro i v σ H3 hi ⟨⟨x5, x6, x7, x8, x9, rfl⟩, rfl⟩
      have lt : i < (toGs p h os g).length := by
        rw [← hlen]
        exact (List.getElem?_eq_some_iff.mp hi).1
      have ei := List.getElem?_eq_getElem lt
      obtain ⟨v', hv', u, e0, hu⟩ := Paired.get? (i := i) hws ei
      obtain rfl : v' = v := Option.some.inj (hv'.symm.trans hi)
      subst e0
      generalize (toGs p h os g)[i] = z at ei hu
      have nuf : u ≠ fo := ne_of hu hfo1 (by intro z; cases z)
      obtain ⟨dx, _, _, _, hx, _⟩ := id N1
      have nxf : x ≠ fo := ne_of hx hfo1 (by intro z; cases z)
      refine ⟨u, _, rfl, SqT.of ((upd_ne nuf).trans hu), rfl, _, _, rfl, _, _, rfl, _, _, rfl, rfl, ?_⟩
      refine ⟨_, rfl, _, rfl, _, _, rfl, rfl, ?_⟩
      refine ⟨_, rfl, _, rfl, _, rfl, _, _, rfl, rfl, _, rfl, x, C, dx, _, _, rfl, (upd_ne nxf).trans hx, T.cl, T.nP, nf_pe, _, _, rfl, rfl, by omega, _, _, rfl, rfl, ?_⟩
      refine ⟨_, rfl, _, rfl, rfl, _, rfl, ?_⟩
      have hf : (upd H1 fo (.lst ((((toGs p h os g).take i).filterMap (postSel p day hs)).map V.int))) fo = some (.lst ((((toGs p h os g).take i).filterMap (postSel p day hs)).map V.int)) := upd_same
      have hfl : ((((toGs p h os g).take i).filterMap (postSel p day hs)).map V.int).length < sizeLine := by
        rw [List.length_map]
        have h1 := List.length_filterMap_le (postSel p day hs) ((toGs p h os g).take i)
        rw [List.length_take] at h1
        have h2 := toGs_len (p := p) (h := h) (os := os) (g := g)
        exact small1000 (by omega)
      rw [take_fm ei]
      show if decide (V.int (z.1 : Int) = V.int (hs : Int)) = true then _ else _
      refine ite2 (fun c => ?_) (fun c => ?_)
      · have c1 : z.1 = hs := by
          have := V.int.inj (of_decide_eq_true c)
          omega
        refine ⟨_, rfl, _, _, rfl, rfl, _, rfl, ite2 (fun c2 => ?_) (fun c2 => ?_)⟩
        · have e : postSel p day hs z = some (post p day z.2.1 z.2.2) := by
            unfold postSel
            rw [if_pos ⟨c1, by have := of_decide_eq_true c2; exact this⟩]
          refine ⟨_, rfl, .inl ⟨rfl, _, SqL.of hf⟩, _, rfl, fo, _, _, rfl, rfl, hf, hfl, ⟨_, _, _, _, _, rfl⟩, ?_⟩
          rw [e, upd_upd, List.map_append]
          rfl
        · have e : postSel p day hs z = none := by
            unfold postSel
            rw [if_neg fun y => c2 (decide_eq_true y.2)]
          refine ⟨⟨_, _, _, _, _, rfl⟩, ?_⟩
          rw [e, Option.toList_none, List.append_nil]
      · have e : postSel p day hs z = none := by
          unfold postSel
          rw [if_neg fun y => c (decide_eq_true (by rw [y.1]))]
        refine iteF ⟨⟨_, _, _, _, _, rfl⟩, ?_⟩
        rw [e, Option.toList_none, List.append_nil]
    · rintro σ H3 ⟨⟨x5, x6, x7, x8, x9, rfl⟩, rfl⟩
      rw [hlen, List.take_of_length_le (Nat.le_refl _)]
      obtain ⟨m1, m2⟩ := posts_spec (g := g) (day := day) nok hh
      have sF : Same H (upd H1 fo (.lst (((toGs p h os g).filterMap (postSel p day hs)).map V.int))) := fun b o e => by
        rw [upd_ne (ne_of_none e nfo)]
        exact s2 _ _ (s1 _ _ e)
      refine ⟨_, rfl, fo, _, .non, rfl, rfl, SqL.of upd_same, fun e => q _ _ sF (.inl ⟨rfl, fun t a e1 => ?_⟩), fun m hm hmax => q _ _ sF ?_⟩
      · rcases Nat.lt_or_ge day a with z | z
        · exact z
        · obtain ⟨m, hm, _⟩ := m2 t a e1 z
          rw [e] at hm
          cases hm
      · obtain ⟨t, a, rfl, e1, e2⟩ := m1 m hm
        refine .inr ⟨t, a, rfl, e1, e2, fun t' a' e3 e4 => ?_⟩
        obtain ⟨m', hm', le⟩ := m2 t' a' e3 e4
        have := hmax m' hm'
        omega
end
abbrev s_senders : Stmt := top 27
abbrev N_senders : List Str := ["net", "goal", "day", "found", "source", "start", "days", "posting"]
abbrev P_senders : List Str := ["net", "goal", "day"]
theorem sc_senders : FnScope N_senders P_senders (defScope s_senders) := ⟨rfl, rfl, rfl, by decide +kernel, rfl, by decide +kernel, by decide +kernel⟩
/-! ### the letters that are delivered on a day -/
section
open PySem.W (alike alikeAll dataLt AllAlike Sortable dataLe)
theorem plD_all_alike (l : List (Nat × Nat)) : AllAlike (l.map plD) := PySem.W.AllAlike.of fun a b => plD_alike a b
theorem plD_sortable (l : List (Nat × Nat)) : Sortable (l.map plD) := .inl fun d hd => by
  obtain ⟨s, _, rfl⟩ := List.mem_map.mp hd
  exact ⟨_, _, rfl⟩
theorem plLe (a b : Nat × Nat) : dataLe false plD a b = !ltS b a := by
  rw [PySem.W.dataLe_eq, ← dataLt_pl]
  rfl
theorem sort_pl {l : List (Nat × Nat)} (nd : l.Nodup) : (l.mergeSort (dataLe false plD)).Pairwise (fun a b => ltS a b = true) ∧ ∀ s, s ∈ l.mergeSort (dataLe false plD) ↔ s ∈ l := by
  have hp : (l.mergeSort (dataLe false plD)).Perm l := List.mergeSort_perm _ _
  refine ⟨?_, fun s => hp.mem_iff⟩
  have h1 : (l.mergeSort (dataLe false plD)).Pairwise fun a b => dataLe false plD a b = true := PySem.W.sort_pairwise (PySem.W.sortLe_total _ _ _) _
  have h2 : (l.mergeSort (dataLe false plD)).Nodup := hp.nodup_iff.mpr nd
  refine (List.Pairwise.and h1 h2).imp ?_
  rintro a b ⟨q, ne⟩
  rw [plLe] at q
  have i1 := ltS_no.mp (show ltS b a = false by simpa using q)
  refine ltS_iff.mpr ?_
  have : ¬ (a.1 = b.1 ∧ a.2 = b.2) := fun z => ne (Prod.ext z.1 z.2)
  omega
end
def spSenders (C : Addr) : Sp := fun vs H Q _ => ∃ (x t : Addr) (p h g day : Nat) (os : List Od) (F : List Addr), vs = [.ref x, .int g, .int day] ∧ NetAt C H x p h os t F ∧ NetOk p h os ∧ g < h ∧ day ≤ 1000000000000000000 ∧
  ∀ H' r ws l, Same H H' → H r = none → H' r = some (.lst ws) → Paired (StopAt H') ws l → l.Pairwise (fun a b => ltS a b = true) → (∀ s, s ∈ l ↔ s.1 < h ∧ dst p h os s = some (g, day)) → l.length ≤ 300 → Q (.ref r) H'
section
variable {P : Program} {w : World} {K : PySem.W.Frag} {mg : Str → Option Value} {base : Heap}
theorem ok_senders {f C : Addr} {fd : FuncData} (F : Fun K "senders" "senders" s_senders f fd) (T : NetT K C) (zs : mg "sorted" = none) (DL : Df P w K mg base "check_letter" 4 P_check_letter (spLetter C))
    (DW : Df P w K mg base "ways_to" 5 P_ways_to (spWaysTo C)) : FnOk P w K mg base CX0 6 f fd P_senders (spSenders C) := by
  obtain ⟨fL, fdL, gL, kL, bL, GL⟩ := DL
  obtain ⟨fW, fdW, gW, kW, bW, GW⟩ := DW
  refine F.ok sc_senders (fun vs H Q E h => ?_) (fun cdv A outer s H vs Q E hr h => ?_)
  · obtain ⟨x, t, p, h, g, day, os, F, rfl, _⟩ := h
    rfl
  · obtain ⟨x, t, p, h, g, day, os, F, rfl, Nt, nok, hg, hd, q⟩ := h
    have hu : (A.deeper (PyProof.Rows.envOfC "senders" (defScope s_senders) s.heap.objs.size f cdv)).units + 65 < cLine := by
      have := hr.un
      omega
    refine ⟨_, pss_cons (ps_expr (pe_call GL (hr.mono (by decide)) (by rfl) gL kL bL .nil pass0 (pa_cons (pv 0) (pa_cons (pv 1) (pa_cons (pv 2) pa_nil)))))
      (pss_cons (ps_set (i := 3) sc_senders.nd rfl (.inl rfl) (pe_lst pa_nil))
      (pss_cons (ps_for PassesOwn.never rfl (pi_list (pe_call GW hr (by rfl) gW kW bW .nil pass0 (pa_cons (pv 0) (pa_cons (pv 1) pa_nil))))
          (pg_tup (by rfl) (pgs_cons (pg_name (i := 4) sc_senders.nd rfl (.inl rfl)) (pgs_cons (pg_name (i := 5) sc_senders.nd rfl (.inl rfl)) (pgs_cons (pg_name (i := 6) sc_senders.nd rfl (.inl rfl)) pgs_nil))))
        (pss_cons (ps_set (i := 7) sc_senders.nd rfl (.inl rfl) (pe_op op_sub (pv 2) (pv 6)))
        (pss_one (ps_if (PW.pt (pw_and (pt_cmpR op_ge (pv 7) pe_int (nomark _)) (pw_and1 (pt_cmpR op_eq (pe_op op_modN (pv 7) (pe_fld (pv 0) rfl)) (pv 5) (nomark _)))))
          (pss_one (ps_expr (pe_bm PySem.F.plainAttrs_list PySem.F.slot_list_append PySem.F.type_list_append mt_append (pv 3) (pa_cons (pe_tup (pa_cons (pv 4) (pa_cons (pv 7) pa_nil))) pa_nil)))) pss_nil))))
      (pss_one (ps_ret (pe_callB (cr_sortedD plD hu) (by rfl) zs PyProof.Rows.boot_sorted (pa_cons (pv 3) pa_nil)))))), ?_⟩
    have p30 := nok.p30; have h10 := nok.h10; have hp := nok.p1
    have big : h * p ≤ 300 := Nat.mul_le_mul h10 p30
    refine ⟨_, rfl, _, rfl, _, rfl, x, t, p, h, g, day, os, F, rfl, Nt, hg, hd, ?_⟩
    refine ⟨Nat.zero_le _, fun fo nfo => ?_⟩
    have s1 := same_upd (o := HO.lst []) nfo
    refine ⟨_, rfl, _, rfl, x, t, p, h, g, os, F, rfl, Nt.same s1, nok, fun H1 r ws s2 nr hr1 hws => ?_⟩
    have hlen := hws.length
    have hfo1 : H1 fo = some (.lst []) := s2 _ _ upd_same
    have nrf : r ≠ fo := (ne_of_none (upd_same (H := H)) nr).symm
    have N1 := (Nt.same s1).same s2
    refine ⟨r, rfl, ⟨_, SqL.of hr1⟩, ?_⟩
    refine for_list (K := K) (a := r) (xs := ws) (fun i σ H' => (∃ x4 x5 x6 x7, σ = [some (.ref x), some (.int g), some (.int day), some (.ref fo), x4, x5, x6, x7]) ∧ But fo H1 H' ∧ ∃ us, H' fo = some (.lst us) ∧ Paired (StopAt H') us (((toGs p h os g).take i).filterMap (sendSel p day)))
      ⟨⟨_, _, _, _, rfl⟩, .refl, [], hfo1, .nil⟩ (fun i σ H' _ ⟨_, b', _⟩ => SqL.of (b' r _ nrf hr1)) ?_ ?_
    · rintro i v σ H3 hi ⟨⟨x4, x5, x6, x7, rfl⟩, b3, us, hfo3, hus⟩
      have lt : i < (toGs p h os g).length := by
        rw [← hlen]
        exact (List.getElem?_eq_some_iff.mp hi).1
      have ei := List.getElem?_eq_getElem lt
      obtain ⟨v', hv', u, e0, hu2⟩ := Paired.get? (i := i) hws ei
      obtain rfl : v' = v := Option.some.inj (hv'.symm.trans hi)
      subst e0
      generalize (toGs p h os g)[i] = z at ei hu2
      have k3 : TupKeep H1 H3 := fun b xs e => b3 b _ (ne_of e hfo1 (by intro z; cases z)) e
      obtain ⟨dx, _, _, _, hx, _⟩ := id N1
      have nxf : x ≠ fo := ne_of hx hfo1 (by intro z; cases z)
      have hul : us.length < sizeLine := by
        rw [hus.length]
        have h1 := List.length_filterMap_le (sendSel p day) ((toGs p h os g).take i)
        rw [List.length_take] at h1
        have h2 := toGs_len (p := p) (h := h) (os := os) (g := g)
        exact small1000 (by omega)
      have none_end : sendSel p day z = none → (fun σ H' => (∃ x4 x5 x6 x7, σ = [some (.ref x), some (.int g), some (.int day), some (.ref fo), x4, x5, x6, x7]) ∧ But fo H1 H' ∧ ∃ us, H' fo = some (.lst us) ∧ Paired (StopAt H') us (((toGs p h os g).take (i + 1)).filterMap (sendSel p day)) : L2.St → Hp → Prop)
          [some (.ref x), some (.int g), some (.int day), some (.ref fo), some (.int z.1), some (.int z.2.1), some (.int z.2.2), some (.int ((day : Int) - (z.2.2 : Int)))] H3 := fun e => by
        refine ⟨⟨_, _, _, _, rfl⟩, b3, us, hfo3, ?_⟩
        rw [take_fm ei, e, Option.toList_none, List.append_nil]
        exact hus
      refine ⟨u, _, rfl, SqT.of (k3 _ _ hu2), rfl, _, _, rfl, _, _, rfl, _, _, rfl, rfl, ?_⟩
      refine ⟨_, rfl, _, rfl, _, _, rfl, rfl, ?_⟩
      refine ⟨_, rfl, _, _, rfl, rfl, _, rfl, ite2 (fun c => ?_) (fun c => ?_)⟩
      · have c1 : z.2.2 ≤ day := by
          have := of_decide_eq_true c
          omega
        have ed : ((day : Int) - (z.2.2 : Int)) = ((day - z.2.2 : Nat) : Int) := by omega
        refine ⟨_, rfl, _, rfl, x, C, dx, _, _, rfl, b3 x _ nxf hx, T.cl, T.nP, nf_pe, _, _, rfl, rfl, by omega, _, rfl, rfl, _, rfl, ?_⟩
        refine ite2 (fun c2 => ?_) (fun c2 => ?_)
        · have c3 : (day - z.2.2) % p = z.2.1 := by
            have := V.int.inj (of_decide_eq_true c2)
            rw [ed, fmod_nat] at this
            omega
          have e : sendSel p day z = some (z.1, day - z.2.2) := by
            unfold sendSel
            rw [if_pos ⟨c1, c3⟩]
          refine ⟨_, rfl, .inl ⟨rfl, _, SqL.of hfo3⟩, _, rfl, _, rfl, (by show 2 ≤ sizeLine; decide), fun y ny => ?_⟩
          have s5 := same_upd (o := HO.tup [.int z.1, .int ((day : Int) - (z.2.2 : Int))]) ny
          have hfo5 := s5 _ _ hfo3
          have nyf : y ≠ fo := (ne_of_none hfo3 ny).symm
          refine ⟨fo, _, _, rfl, rfl, hfo5, hul, ⟨_, _, _, _, rfl⟩, (b3.trans (.of s5)).trans .upd, _, upd_same, ?_⟩
          have k6 : TupKeep _ _ := (tk_of s5).trans (TupKeep.lst (o := HO.lst (us ++ [.ref y])) hfo5)
          rw [take_fm ei, e]
          exact Paired.snoc (StopsAt.keep k6 hus) ⟨y, rfl, by
            rw [upd_ne nyf, upd_same]
            show some (HO.tup [V.int z.1, V.int ((day : Int) - (z.2.2 : Int))]) = _
            rw [ed]⟩
        · refine none_end ?_
          unfold sendSel
          rw [if_neg fun y => c2 (decide_eq_true (by
            show V.int (((day : Int) - (z.2.2 : Int)).fmod (p : Int)) = _
            rw [ed, fmod_nat, y.2]))]
      · refine iteF (none_end ?_)
        unfold sendSel
        rw [if_neg fun y => c (decide_eq_true (by have := y.1; omega))]
    · rintro σ H3 ⟨⟨x4, x5, x6, x7, rfl⟩, b3, us, hfo3, hus⟩
      rw [hlen, List.take_of_length_le (Nat.le_refl _)] at hus
      have nd := sends_nd (p := p) (h := h) (g := g) (day := day) (os := os)
      have hmem := fun s => sends_mem (g := g) (day := day) nok (s := s)
      have hle : ((toGs p h os g).filterMap (sendSel p day)).length ≤ 300 := by
        have h1 := List.length_filterMap_le (sendSel p day) (toGs p h os g)
        have h2 := toGs_len (p := p) (h := h) (os := os) (g := g)
        omega
      generalize (toGs p h os g).filterMap (sendSel p day) = l at hus nd hmem hle
      obtain ⟨o1, o2⟩ := sort_pl nd
      refine ⟨_, rfl, fo, us, l, StopAt H3, rfl, SqL.of hfo3, hus, stops_dp hus, plD_all_alike l, plD_sortable l, fun b _ => ?_, fun ys r' hys nr' => ?_⟩
      · have e : (plD b).depth = 1 := by simp [plD, PyData.depth, PyData.depthAll]
        omega
      · have s6 := same_upd (o := HO.lst ys) nr'
        have sF : Same H (upd H3 r' (.lst ys)) := fun b o e => s6 _ _ (b3 b o (ne_of_none e nfo) (s2 _ _ (s1 _ _ e)))
        refine q _ r' ys _ sF ?_ upd_same (StopsAt.keep (tk_of s6) hys) o1 (fun s => (o2 s).trans (hmem s)) (by rw [List.length_mergeSort]; exact hle)
        cases e : H r' with
        | none => rfl
        | some o =>
          have := b3 r' o (ne_of_none e nfo) (s2 _ _ (s1 _ _ e))
          rw [nr'] at this
          cases this
end
/-! ### comprehensions that choose from a range, or from a list of numbers -/
theorem take_filter {α : Type} {f : α → Bool} {l : List α} {i : Nat} {q : α} (e : l[i]? = some q) : (l.take (i + 1)).filter f = (l.take i).filter f ++ (if f q = true then [q] else []) := by
  rw [List.take_add_one, e, List.filter_append]
  by_cases c : f q = true <;> simp [c]
theorem nints_len {l : List Nat} : (nints l).length = l.length := by
  unfold nints
  rw [List.length_map]
theorem nints_app {l m : List Nat} : nints (l ++ m) = nints l ++ nints m := by
  unfold nints
  rw [List.map_append]
theorem nints_V {l : List Nat} : nints l = (l.map fun (n : Nat) => (n : Int)).map V.int := by
  unfold nints
  rw [List.map_map]
  rfl
theorem nints_get {l : List Nat} {i : Nat} {v : V} (h : (nints l)[i]? = some v) : ∃ n, l[i]? = some n ∧ v = .int (n : Nat) := by
  unfold nints at h
  rw [List.getElem?_map, Option.map_eq_some_iff] at h
  obtain ⟨n, h1, h2⟩ := h
  exact ⟨n, h1, h2.symm⟩
theorem lc_rfilt {m : Int} {n v : Nat} {tt : TT} {σ : L2.St} {H1 : Hp} {D : Addr} {Qd : Hp → Prop} (f : Nat → Bool) (hm : m.toNat = n) (hn : n ≤ 1000)
    (hw : ∀ x, wipe ((wipe σ [v]).set v x) [v] = wipe σ [v]) (hv : ∀ x, ((wipe σ [v]).set v x)[v]? = some x)
    (ht : ∀ (i : Nat) l (Q : Bool → Hp → Prop), i < n → Q (f i) (upd H1 D (.lst l)) → tt ((wipe σ [v]).set v (some (.int (i : Nat)))) (upd H1 D (.lst l)) Q)
    (hd : Qd (upd H1 D (.lst (nints ((List.range n).filter f))))) :
    ∃ W : Nat → Nat → Hp → Prop, (∃ k, W 0 k (upd H1 D (.lst []))) ∧ ∀ i k H, W i k H →
      ((Itr 0 m.toNat).stop i H ∧ Qd H) ∨ ((Itr 0 m.toNat).go i H ∧ ∃ Nx : Hp → Prop, (∀ H', Nx H' → ∃ k', k' < k ∧ W (i + 1) k' H') ∧ ∀ x H', (Itr 0 m.toNat).yld i H x H' → gName v x (wipe σ [v]) H' fun σ2 H2 => wipe σ2 [v] = wipe σ [v] ∧ tt σ2 H2 fun b H3 =>
        if b = true then tVar v σ2 H3 fun y H4 => ∃ acc, H4 D = some (.lst acc) ∧ acc.length < sizeLine ∧ Nx (upd H4 D (.lst (acc ++ [y]))) else Nx H3) := by
  subst hm
  refine lc_range (lo := 0) (n := m.toNat) (fun i H' => H' = upd H1 D (.lst (nints ((List.range i).filter f)))) rfl ?_ (fun H' e => by rw [e]; exact hd)
  rintro i H' hi rfl
  rw [show (0 : Int) + (i : Int) = (i : Nat) from Int.zero_add _]
  refine ⟨hw _, ht i _ _ hi ?_⟩
  rw [filter_range_succ']
  by_cases c : f i = true
  · rw [c, if_pos rfl, if_pos rfl]
    refine ⟨_, hv _, _, upd_same, ?_, ?_⟩
    · rw [nints_len]
      exact small1000 (Nat.le_trans (List.length_filter_le _ _) (by rw [List.length_range]; omega))
    · rw [upd_upd, nints_app]
      rfl
  · rw [Bool.eq_false_iff.mpr c, if_neg Bool.false_ne_true, if_neg Bool.false_ne_true, List.append_nil]
theorem lc_lfilt {K : PySem.W.Frag} {a : Addr} {l : List Nat} {v : Nat} {tt : TT} {σ : L2.St} {H1 : Hp} {D : Addr} {Qd : Hp → Prop} (f : Nat → Bool) (hn : l.length ≤ 1000) (ha : H1 a = some (.lst (nints l))) (naD : a ≠ D)
    (hw : ∀ x, wipe ((wipe σ [v]).set v x) [v] = wipe σ [v]) (hv : ∀ x, ((wipe σ [v]).set v x)[v]? = some x)
    (ht : ∀ (i k : Nat) us (Q : Bool → Hp → Prop), l[i]? = some k → Q (f k) (upd H1 D (.lst us)) → tt ((wipe σ [v]).set v (some (.int (k : Nat)))) (upd H1 D (.lst us)) Q)
    (hd : Qd (upd H1 D (.lst (nints (l.filter f))))) :
    ∃ W : Nat → Nat → Hp → Prop, (∃ k, W 0 k (upd H1 D (.lst []))) ∧ ∀ i k H, W i k H →
      ((Itl K a).stop i H ∧ Qd H) ∨ ((Itl K a).go i H ∧ ∃ Nx : Hp → Prop, (∀ H', Nx H' → ∃ k', k' < k ∧ W (i + 1) k' H') ∧ ∀ x H', (Itl K a).yld i H x H' → gName v x (wipe σ [v]) H' fun σ2 H2 => wipe σ2 [v] = wipe σ [v] ∧ tt σ2 H2 fun b H3 =>
        if b = true then tVar v σ2 H3 fun y H4 => ∃ acc, H4 D = some (.lst acc) ∧ acc.length < sizeLine ∧ Nx (upd H4 D (.lst (acc ++ [y]))) else Nx H3) := by
  refine lc_list (K := K) (a := a) (xs := nints l) (fun i H' => H' = upd H1 D (.lst (nints ((l.take i).filter f)))) rfl (fun i H' _ e => by rw [e]; exact SqL.of ((upd_ne naD).trans ha)) ?_ (fun H' e => by
    rw [e, nints_len, List.take_of_length_le (Nat.le_refl _)]
    exact hd)
  rintro i x H' hi rfl
  obtain ⟨k, hk, rfl⟩ := nints_get hi
  refine ⟨hw _, ht i k _ _ hk ?_⟩
  have il := (List.getElem?_eq_some_iff.mp hk).1
  rw [take_filter hk]
  by_cases c : f k = true
  · rw [c, if_pos rfl, if_pos rfl]
    refine ⟨_, hv _, _, upd_same, ?_, ?_⟩
    · rw [nints_len]
      exact small1000 (Nat.le_trans (List.length_filter_le _ _) (by rw [List.length_take]; omega))
    · rw [upd_upd, nints_app]
      rfl
  · rw [Bool.eq_false_iff.mpr c, if_neg Bool.false_ne_true, if_neg Bool.false_ne_true, List.append_nil]
theorem lc_rfiltS {m : Int} {n v : Nat} {tt : TT} {σ : L2.St} {H1 : Hp} {D : Addr} {Qd : Hp → Prop} (f : Nat → Bool) (hm : m.toNat = n) (hn : n ≤ 1000) (nD : H1 D = none)
    (hw : ∀ x, wipe ((wipe σ [v]).set v x) [v] = wipe σ [v]) (hv : ∀ x, ((wipe σ [v]).set v x)[v]? = some x)
    (ht : ∀ (i : Nat) H2 (Q : Bool → Hp → Prop), i < n → Same H1 H2 → (∀ H3, Same H2 H3 → Q (f i) H3) → tt ((wipe σ [v]).set v (some (.int (i : Nat)))) H2 Q)
    (hd : ∀ H', Same H1 H' → H' D = some (.lst (nints ((List.range n).filter f))) → Qd H') :
    ∃ W : Nat → Nat → Hp → Prop, (∃ k, W 0 k (upd H1 D (.lst []))) ∧ ∀ i k H, W i k H →
      ((Itr 0 m.toNat).stop i H ∧ Qd H) ∨ ((Itr 0 m.toNat).go i H ∧ ∃ Nx : Hp → Prop, (∀ H', Nx H' → ∃ k', k' < k ∧ W (i + 1) k' H') ∧ ∀ x H', (Itr 0 m.toNat).yld i H x H' → gName v x (wipe σ [v]) H' fun σ2 H2 => wipe σ2 [v] = wipe σ [v] ∧ tt σ2 H2 fun b H3 =>
        if b = true then tVar v σ2 H3 fun y H4 => ∃ acc, H4 D = some (.lst acc) ∧ acc.length < sizeLine ∧ Nx (upd H4 D (.lst (acc ++ [y]))) else Nx H3) := by
  subst hm
  refine lc_range (lo := 0) (n := m.toNat) (fun i H' => Same H1 H' ∧ H' D = some (.lst (nints ((List.range i).filter f)))) ⟨same_upd nD, upd_same⟩ ?_ (fun H' e => hd H' e.1 e.2)
  rintro i H' hi ⟨s', hD⟩
  rw [show (0 : Int) + (i : Int) = (i : Nat) from Int.zero_add _]
  refine ⟨hw _, ht i _ _ hi s' fun H3 s3 => ?_⟩
  have hD3 := s3 _ _ hD
  rw [filter_range_succ']
  by_cases c : f i = true
  · rw [c, if_pos rfl, if_pos rfl]
    refine ⟨_, hv _, _, hD3, ?_, fun b o e => ?_, ?_⟩
    · rw [nints_len]
      exact small1000 (Nat.le_trans (List.length_filter_le _ _) (by rw [List.length_range]; omega))
    · rw [upd_ne (ne_of_none e nD)]
      exact s3 _ _ (s' _ _ e)
    · rw [upd_same, nints_app]
      rfl
  · rw [Bool.eq_false_iff.mpr c, if_neg Bool.false_ne_true, if_neg Bool.false_ne_true, List.append_nil]
    exact ⟨s'.trans s3, hD3⟩
/-! ### results and lists of stops as data -/
section
open PySem.W (alike alikeAll dataLt AllAlike Sortable dataLe)
theorem plD_depth (b : Nat × Nat) : (plD b).depth ≤ 60 := by
  have e : (plD b).depth = 1 := by simp [plD, PyData.depth, PyData.depthAll]
  omega
def optD : Option (Nat × Nat) → PyData
  | none => .none
  | some s => plD s
theorem opt_dp {K : PySem.W.Frag} {H : Hp} {v : V} {o : Option (Nat × Nat)} (h : OptStop H v o) : Dp K H v (optD o) := by
  cases o with
  | none =>
    obtain rfl : v = .non := h
    exact .non
  | some s => exact stop_dp h
theorem optD_shaped (o : Option (Nat × Nat)) : PySem.SeqAt.shaped (optD o) = true := by
  cases o with
  | none => rfl
  | some s => exact plD_shaped s
theorem optD_eqv (a b : Option (Nat × Nat)) : PyData.eqv (optD a) (optD b) = decide (a = b) := by
  cases a with
  | none =>
    cases b with
    | none => simp [optD, PyData.eqv]
    | some t => simp [optD, plD, PyData.eqv]
  | some s =>
    cases b with
    | none => simp [optD, plD, PyData.eqv]
    | some t =>
      show PyData.eqv (plD s) (plD t) = _
      rw [plD_eqv]
      by_cases c : s = t
      · rw [decide_eq_true c, decide_eq_true (by rw [c])]
      · rw [decide_eq_false c, decide_eq_false fun e => c (Option.some.inj e)]
theorem plA_eqv : ∀ a b : List (Nat × Nat), PyData.eqvAll (a.map plD) (b.map plD) = decide (a = b)
  | [], [] => by simp [PyData.eqvAll]
  | [], _ :: _ => by simp [PyData.eqvAll]
  | _ :: _, [] => by simp [PyData.eqvAll]
  | x :: xs, y :: ys => by
    rw [List.map_cons, List.map_cons, PySem.W.eqv_all_cons, plD_eqv, plA_eqv xs ys]
    by_cases h1 : x = y <;> by_cases h2 : xs = ys <;> simp [h1, h2]
theorem plL_eqv (a b : List (Nat × Nat)) : PyData.eqv (.list (a.map plD)) (.list (b.map plD)) = decide (a = b) := by
  rw [← plA_eqv]
  simp [PyData.eqv]
theorem pl_any (l : List (Nat × Nat)) (s : Nat × Nat) : ((l.map plD).any fun z => PyData.eqv z (plD s)) = decide (s ∈ l) := by
  induction l with
  | nil => simp
  | cons a l ih =>
    rw [List.map_cons, List.any_cons, ih, plD_eqv]
    by_cases h1 : a = s <;> by_cases h2 : s ∈ l <;> simp [h1, h2]
    exact fun e => h1 e.symm
end
theorem ints_empty (l : List Nat) : (!PyData.eqv (.list ((l.map fun (n : Nat) => (n : Int)).map PyData.int)) (.list [])) = !l.isEmpty := by
  cases l <;> rfl
theorem ints_empty' (l : List Nat) : PyData.eqv (.list ((l.map fun (n : Nat) => (n : Int)).map PyData.int)) (.list []) = l.isEmpty := by
  cases l <;> rfl
theorem dec_le {a b : Nat} : decide ((a : Int) ≤ (b : Int)) = decide (a ≤ b) := by
  by_cases c : a ≤ b
  · rw [decide_eq_true c, decide_eq_true (by omega)]
  · rw [decide_eq_false c, decide_eq_false (by omega)]
theorem dec_intV {a b : Nat} : decide (V.int (a : Int) = V.int (b : Int)) = decide (a = b) := by
  by_cases c : a = b
  · rw [decide_eq_true c, decide_eq_true (by rw [c])]
  · rw [decide_eq_false c, decide_eq_false fun y => c (by have := V.int.inj y; omega)]
def tNotN (t : TE) : TT := tTest (tOp (fun x y H Q => y = V.non ∧ Q (V.bl (!decide (x = .non))) H) t (tC .non))
theorem Paired.app {α β : Type} {F : α → β → Prop} : ∀ {a : List α} {b : List β} {c : List α} {d : List β}, Paired F a b → Paired F c d → Paired F (a ++ c) (b ++ d)
  | _, _, _, _, .nil, q => q
  | _, _, _, _, .cons r t, q => .cons r (Paired.app t q)
/-! ### letters that come to a goal: more -/
section
open PySem.W (alike alikeAll dataLt AllAlike Sortable dataLe)
theorem sort_self {l : List (Nat × Nat)} (pw : l.Pairwise fun a b => ltS a b = true) : l.mergeSort (dataLe false plD) = l := List.mergeSort_of_pairwise (pw.imp fun {a b} q => by
  rw [plLe]
  have i1 := ltS_iff.mp q
  rw [ltS_no.mpr (show ¬ (b.1 < a.1 ∨ (b.1 = a.1 ∧ b.2 < a.2)) by omega)]
  rfl)
end
theorem comes_iff {p h g : Nat} {os : List Od} {s : Nat × Nat} : comes p h os g s = true ↔ ∃ a, dst p h os s = some (g, a) := by
  unfold comes
  rw [decide_eq_true_iff]
  cases dst p h os s with
  | none => simp
  | some c =>
    obtain ⟨c1, c2⟩ := c
    simp
theorem comes_some {p h g : Nat} {os : List Od} {s c : Nat × Nat} (e : dst p h os s = some c) : comes p h os g s = decide (V.int (c.1 : Int) = V.int (g : Int)) := by
  unfold comes
  rw [e, dec_intV]
  show decide (some c.1 = some g) = _
  by_cases z : c.1 = g
  · rw [decide_eq_true (by rw [z]), decide_eq_true z]
  · rw [decide_eq_false (fun y => z (Option.some.inj y)), decide_eq_false z]
theorem comes_none {p h g : Nat} {os : List Od} {s : Nat × Nat} (e : dst p h os s = none) : comes p h os g s = false := by
  unfold comes
  rw [e]
  exact decide_eq_false fun y => by cases y
theorem comes_add {p h g hs n : Nat} {os : List Od} (ok : NetOk p h os) (hh : hs < h) : comes p h os g (hs, n + p) = comes p h os g (hs, n) := by
  rw [← comes_plc ok (s := (hs, n + p)) hh, ← comes_plc ok (s := (hs, n)) hh]
  show comes p h os g (hs, (n + p) % p) = comes p h os g (hs, n % p)
  rw [Nat.add_mod_right]
theorem cntTo_add_p {p h hs g : Nat} {os : List Od} (ok : NetOk p h os) (hh : hs < h) : ∀ n, cntTo p h os hs g (n + p) = cntTo p h os hs g n + cntTo p h os hs g p
  | 0 => by
    rw [Nat.zero_add]
    show _ = 0 + _
    rw [Nat.zero_add]
  | n + 1 => by
    rw [show n + 1 + p = (n + p) + 1 by omega, cntTo_succ, cntTo_succ, cntTo_add_p ok hh n, comes_add ok hh]
    omega
theorem cntTo_mul {p h hs g n : Nat} {os : List Od} (ok : NetOk p h os) (hh : hs < h) : ∀ j, cntTo p h os hs g (n + p * j) = cntTo p h os hs g n + j * cntTo p h os hs g p
  | 0 => by simp
  | j + 1 => by
    rw [show n + p * (j + 1) = n + p * j + p by rw [Nat.mul_succ]; omega, cntTo_add_p ok hh, cntTo_mul ok hh j, Nat.succ_mul]
    omega
theorem hop_days {p h : Nat} {os : List Od} {c s : Nat × Nat} (k : NetOk p h os) (e : hop p os c = some s) : s.2 ≤ c.2 + 9 := by
  unfold hop at e
  cases q : idx p os c.1 (c.2 : Int) with
  | none =>
    rw [q] at e
    cases e
  | some j =>
    simp only [q] at e
    have hj := idx_lt q
    rw [List.getElem?_eq_getElem hj] at e
    rw [← Option.some.inj e]
    have := (k.ok _ (List.getElem_mem hj)).e
    show c.2 + _ ≤ c.2 + 9
    omega
theorem stp_days {p h : Nat} {os : List Od} {st : Nat × Nat} (k : NetOk p h os) : ∀ (i : Nat) {s : Nat × Nat}, stp p os i st = some s → s.2 ≤ st.2 + 9 * i
  | 0, s, e => by
    cases e
    exact Nat.le_refl _
  | i + 1, s, e => by
    obtain ⟨c, hc, e⟩ := Option.bind_eq_some_iff.mp (show (stp p os i st).bind (hop p os) = some s from e)
    have h1 := stp_days k i hc
    have h2 := hop_days k e
    omega
theorem dst_days {p h : Nat} {os : List Od} {st c : Nat × Nat} (ok : NetOk p h os) (hh : st.1 < h) (e : dst p h os st = some c) : c.2 ≤ st.2 + 2700 := by
  have big : h * p ≤ 300 := Nat.mul_le_mul ok.h10 ok.p30
  unfold dst at e
  rcases folR_cases ok hh with ⟨l, e1, hne, hl, nd⟩ | ⟨m, s, b, t, k, e1, _⟩
  · rw [e1] at e
    have e : l.getLast? = some c := e
    rw [List.getLast?_eq_getElem?, hl] at e
    have hb := places_bound ok.p1 (fun s hs => by
      obtain ⟨j, hj⟩ := List.getElem?_of_mem hs
      exact pst_house ok hh j ((hl j).symm.trans hj)) nd
    have := stp_days ok _ e
    omega
  · rw [e1] at e
    cases e
theorem LastP.cases {p h hs g day : Nat} {os : List Od} {v : V} (ok : NetOk p h os) (hh : hs < h) (big : 3000 ≤ day) (L : LastP p h os hs g day v) :
    (v = .non ∧ (List.range p).filter (fun k => comes p h os g (hs, k)) = []) ∨ ∃ t a : Nat, v = .int t ∧ dst p h os (hs, t) = some (g, a) ∧ a ≤ day ∧ (∀ t' a', dst p h os (hs, t') = some (g, a') → a' ≤ day → t' ≤ t) ∧ (List.range p).filter (fun k => comes p h os g (hs, k)) ≠ [] := by
  have p30 := ok.p30
  rcases L with ⟨rfl, h1⟩ | ⟨t, a, rfl, h1, h2, h3⟩
  · refine .inl ⟨rfl, List.filter_eq_nil_iff.mpr fun k hk c => ?_⟩
    have hk := List.mem_range.mp hk
    obtain ⟨a, e⟩ := comes_iff.mp c
    have b1 := h1 k a e
    have b2 := dst_days ok (st := (hs, k)) hh e
    have b3 : a ≤ k + 2700 := b2
    omega
  · refine .inr ⟨t, a, rfl, h1, h2, h3, fun z => ?_⟩
    have c : comes p h os g (hs, t % p) = true := by
      have := comes_plc ok (g := g) (s := (hs, t)) hh
      rw [show plc p (hs, t) = (hs, t % p) from rfl] at this
      rw [this]
      exact comes_iff.mpr ⟨a, h1⟩
    have := List.filter_eq_nil_iff.mp z (t % p) (List.mem_range.mpr (Nat.mod_lt _ ok.p1))
    exact this c
/-! ### slices and sums of tuples -/
theorem slA_case {K : PySem.W.Frag} {t0 : Addr} {ts : List V} {lo hi : Option Int} {H : Hp} {Q : VK} (ht : H t0 = some (.tup ts)) (h : ∀ b H', Same H H' → H' b = some (.tup (cutV ts lo hi)) → Q (.ref b) H') : rSlA K (.ref t0) lo hi H Q := by
  refine ⟨t0, ts, rfl, SqT.of ht, fun hf => h t0 H (.refl H) ?_, fun hn p np => h p _ (same_upd np) upd_same⟩
  unfold cutV
  rw [hf.1, hf.2, List.drop_zero, Nat.sub_zero, List.take_of_length_le (Nat.le_refl _)]
  exact ht
theorem catA_case {K : PySem.W.Frag} {a b : Addr} {xs ys : List V} {H : Hp} {Q : VK} (ha : H a = some (.tup xs)) (hb : H b = some (.tup ys)) (hl : xs.length + ys.length ≤ sizeLine) (h : ∀ c H', Same H H' → H' c = some (.tup (xs ++ ys)) → Q (.ref c) H') : rCatA K (.ref a) (.ref b) H Q := by
  refine ⟨a, b, xs, ys, rfl, rfl, SqT.of ha, SqT.of hb, hl, fun e => ?_, fun _ e => ?_, fun _ _ p np => h p _ (same_upd np) upd_same⟩
  · subst e
    exact h b H (.refl H) hb
  · subst e
    rw [List.append_nil] at h
    exact h a H (.refl H) ha
/-- the orders but the k-th -/
def wo (os : List Od) (k : Nat) : List Od := os.take k ++ os.drop (k + 1)
theorem wo_ok {p h k : Nat} {os : List Od} (ok : NetOk p h os) : NetOk p h (wo os k) := by
  refine { ok with len := ?_, ok := fun o ho => ?_ }
  · unfold wo
    rw [List.length_append, List.length_take, List.length_drop]
    have := ok.len
    omega
  · rcases List.mem_append.mp ho with z | z
    · exact ok.ok o (List.mem_of_mem_take z)
    · exact ok.ok o (List.mem_of_mem_drop z)
abbrev s_without_order : Stmt := top 37
abbrev N_without_order : List Str := ["orders", "index"]
abbrev P_without_order : List Str := ["orders", "index"]
theorem sc_without_order : FnScope N_without_order P_without_order (defScope s_without_order) := ⟨rfl, rfl, rfl, by decide +kernel, rfl, by decide +kernel, by decide +kernel⟩
/-! ### a tuple without one of its values -/
def spWo : Sp := fun vs H Q _ => ∃ (t : Addr) (k : Nat) (ts : List V), vs = [.ref t, .int k] ∧ H t = some (.tup ts) ∧ ts.length ≤ 1000 ∧
  ∀ H' c, Same H H' → H' c = some (.tup (ts.take k ++ ts.drop (k + 1))) → Q (.ref c) H'
section
variable {P : Program} {w : World} {K : PySem.W.Frag} {mg : Str → Option Value} {base : Heap}
theorem ok_wo {f : Addr} {fd : FuncData} (F : Fun K "without_order" "without_order" s_without_order f fd) : FnOk P w K mg base CX0 1 f fd P_without_order spWo := by
  refine F.ok sc_without_order (fun vs H Q E h => ?_) (fun cdv A outer s H vs Q E hr h => ?_)
  · obtain ⟨t, k, ts, rfl, _⟩ := h
    rfl
  · obtain ⟨t, k, ts, rfl, ht, tl, q⟩ := h
    refine ⟨_, pss_one (ps_ret (pe_op op_catA (pe_slice sl_tupA (pv 0) po_none (po_some (pv 1))) (pe_slice sl_tupA (pv 0) (po_some (pe_op op_add (pv 1) pe_int)) po_none))), ?_⟩
    refine ⟨_, rfl, _, rfl, (k : Nat), rfl, ?_⟩
    refine slA_case ht fun b H1 s1 hb => ?_
    have ht1 := s1 _ _ ht
    refine ⟨_, rfl, _, rfl, _, _, rfl, rfl, (k : Int) + 1, rfl, ?_⟩
    unfold tNoPart
    refine slA_case (lo := some ((k : Int) + 1)) (hi := none) ht1 fun b2 H2 s2 hb2 => ?_
    rw [cut_to] at hb
    rw [show ((k : Int) + 1) = ((k + 1 : Nat) : Int) from rfl, cut_from] at hb2
    exact catA_case (s2 _ _ hb) hb2 (by rw [List.length_take, List.length_drop]; exact Nat.le_of_lt (small1000 (by omega))) fun c H3 s3 hc => q H3 c (s1.trans (s2.trans s3)) hc
end
/-! ### slices and sums of lists -/
theorem slL_case {K : PySem.W.Frag} {a : Addr} {xs : List V} {lo hi : Option Int} {H : Hp} {Q : VK} (ha : H a = some (.lst xs)) (h : ∀ b H', Same H H' → H b = none → H' b = some (.lst (cutV xs lo hi)) → Q (.ref b) H') : rSlL K (.ref a) lo hi H Q :=
  ⟨a, xs, rfl, SqL.of ha, fun p np => h p _ (same_upd np) np upd_same⟩
theorem catL_case {a b : Addr} {xs ys : List V} {H : Hp} {Q : VK} (ha : H a = some (.lst xs)) (hb : H b = some (.lst ys)) (hl : xs.length + ys.length ≤ sizeLine) (h : ∀ c H', Same H H' → H c = none → H' c = some (.lst (xs ++ ys)) → Q (.ref c) H') : rCat (.ref a) (.ref b) H Q :=
  ⟨a, b, xs, ys, rfl, rfl, ha, hb, hl, fun p np => h p _ (same_upd np) np upd_same⟩
theorem Paired.setAt {α β : Type} {F : α → β → Prop} {x : α} {y : β} : ∀ {l1 : List α} {l2 : List β} (k : Nat), Paired F l1 l2 → F x y → Paired F (l1.set k x) (l2.set k y)
  | _, _, _, .nil, _ => .nil
  | _, _, 0, .cons _ t, q => .cons q t
  | _, _, k + 1, .cons r t, q => .cons r (Paired.setAt k t q)
/-! ### delivered by a day, on a day -/
def byDay (p h : Nat) (os : List Od) (day : Nat) (s : Nat × Nat) : Bool := match dst p h os s with
  | none => false
  | some c => decide (c.2 ≤ day)
def onDayB (p h : Nat) (os : List Od) (day : Nat) (s : Nat × Nat) : Bool := match dst p h os s with
  | none => false
  | some c => decide (c.2 = day)
theorem byDay_some {p h day : Nat} {os : List Od} {s c : Nat × Nat} (e : dst p h os s = some c) : byDay p h os day s = decide ((c.2 : Int) ≤ (day : Int)) := by
  unfold byDay
  rw [e, dec_le]
theorem onDay_some {p h day : Nat} {os : List Od} {s c : Nat × Nat} (e : dst p h os s = some c) : onDayB p h os day s = decide (V.int (c.2 : Int) = V.int (day : Int)) := by
  unfold onDayB
  rw [e, dec_intV]
theorem odK {p h s t f n e : Nat} (h1 : s < h) (h2 : t < h) (h3 : s ≠ t) (h4 : f < p) (h5 : 1 ≤ n) (h6 : n ≤ p) (h7 : 1 ≤ e) (h8 : e ≤ 9) : OdOk p h ⟨s, t, f, n, e⟩ := ⟨h1, h2, h3, h4, h5, h6, h7, h8⟩
abbrev s_count_chasing : Stmt := top 43
abbrev N_count_chasing : List Str := ["net"]
abbrev P_count_chasing : List Str := ["net"]
theorem sc_count_chasing : FnScope N_count_chasing P_count_chasing (defScope s_count_chasing) := ⟨rfl, rfl, rfl, by decide +kernel, rfl, by decide +kernel, by decide +kernel⟩
/-! ### how many letters chase -/
def chN (p h : Nat) (os : List Od) : Nat := ((lets p h).filter fun s => (dst p h os s).isNone).length
theorem optDs_plain : ∀ l : List (Option (Nat × Nat)), PyData.plainAll (l.map optD) = true
  | [] => by simp [PyData.plainAll]
  | none :: l => by simp [PyData.plainAll, PyData.plain, optD, optDs_plain l]
  | some s :: l => by simp [PyData.plainAll, PyData.plain, optD, plD, optDs_plain l]
theorem count_none (l : List (Option (Nat × Nat))) : ((l.map optD).countP fun z => PyData.eqv z .none) = l.countP (·.isNone) := by
  induction l with
  | nil => rfl
  | cons o l ih =>
    rw [List.map_cons, List.countP_cons, List.countP_cons, ih]
    congr 1
    rw [show (PyData.none) = optD none from rfl, optD_eqv]
    cases o <;> simp
def spChasing (C : Addr) : Sp := fun vs H Q _ => ∃ (x t : Addr) (p h : Nat) (os : List Od) (F : List Addr), vs = [.ref x] ∧ NetAt C H x p h os t F ∧ NetOk p h os ∧ ∀ H', Same H H' → Q (.int (chN p h os : Nat)) H'
section
variable {P : Program} {w : World} {K : PySem.W.Frag} {mg : Str → Option Value} {base : Heap}
theorem opts_dp {K : PySem.W.Frag} {H : Hp} {f : Nat × Nat → V} {g : Nat × Nat → Option (Nat × Nat)} : ∀ {ks : List (Nat × Nat)}, (∀ q ∈ ks, OptStop H (f q) (g q)) → DpAll K H (ks.map f) ((ks.map g).map optD)
  | [], _ => .nil
  | q :: ks, h => .cons (opt_dp (h q List.mem_cons_self)) (opts_dp fun r hr => h r (List.mem_cons_of_mem _ hr))
theorem lets_nd {p h : Nat} : (lets p h).Nodup := List.Pairwise.imp (fun {a b} q e => by
  have := ltS_iff.mp q
  rw [e] at this
  omega) lets_pw
theorem ok_chasing {f C : Addr} {fd : FuncData} (F : Fun K "count_chasing" "count_chasing" s_count_chasing f fd) (B : Blt mg) (DW : Df P w K mg base "find_ways" 4 P_find_ways (spFindWays C)) : FnOk P w K mg base CX0 5 f fd P_count_chasing (spChasing C) := by
  obtain ⟨fW, fdW, gW, kW, bW, GW⟩ := DW
  refine F.ok sc_count_chasing (fun vs H Q E h => ?_) (fun cdv A outer s H vs Q E hr h => ?_)
  · obtain ⟨x, t, p, h, os, F, rfl, _⟩ := h
    rfl
  · obtain ⟨x, t, p, h, os, F, rfl, Nt, nok, q⟩ := h
    have hu : (A.deeper (PyProof.Rows.envOfC "count_chasing" (defScope s_count_chasing) s.heap.objs.size f cdv)).units + 65 < cLine := by
      have := hr.un
      omega
    refine ⟨_, pss_one (ps_ret (pe_bm PySem.F.plainAttrs_list PySem.F.slot_list_count PySem.F.type_list_count (mt_countD hu) (pe_callTy (call_list_valuesT rfl) (by rfl) B.list (by decide +kernel) (pa_cons (pe_bm0 PySem.F.plainAttrs_dict PySem.F.slot_dict_values PySem.F.type_dict_values mt_valuesT (pe_call GW hr (by rfl) gW kW bW .nil pass0 (pa_cons (pv 0) pa_nil))) pa_nil)) (pa_cons pe_non pa_nil))), ?_⟩
    refine ⟨_, rfl, x, t, p, h, os, F, rfl, Nt, nok, fun H1 d ks f s1 nd W1 hks => ?_⟩
    refine ⟨.inr (.inr (.inl ⟨rfl, .inr ⟨_, W1.tab⟩⟩)), d, _, rfl, rfl, W1.tab, fun v nv => ?_⟩
    have s2 := same_upd (o := valsO v d) nv
    have W2 := W1.same s2
    have ev : (wkv p ks f).map (·.2) = ks.map f := by
      unfold wkv
      rw [List.map_map]
      rfl
    refine ⟨v, d, _, rfl, upd_same, W2.tab, ?_⟩
    rw [ev]
    intro l nl
    have s3 := same_upd (o := HO.lst (ks.map f)) nl
    have W3 := W2.same s3
    refine ⟨.inl ⟨rfl, _, SqL.of upd_same⟩, l, _, .non, .none, _, rfl, rfl, SqL.of upd_same, opts_dp W3.ways, .non, optDs_plain _, rfl, by decide, ?_⟩
    rw [count_none, List.countP_map]
    have perm : ks.Perm (lets p h) := (List.perm_ext_iff_of_nodup W1.nd lets_nd).mpr hks
    rw [perm.countP_eq, List.countP_eq_length_filter]
    have e : ((lets p h).filter ((fun (o : Option (Nat × Nat)) => o.isNone) ∘ wayOf p h os)) = (lets p h).filter fun s => (dst p h os s).isNone := by
      congr 1
      funext s
      show (wayOf p h os s).isNone = _
      unfold wayOf
      cases dst p h os s <;> rfl
    rw [e]
    exact q _ (s1.trans (s2.trans s3))
end
abbrev s_without : Stmt := top 47
abbrev N_without : List Str := ["net", "index"]
abbrev P_without : List Str := ["net", "index"]
theorem sc_without : FnScope N_without P_without (defScope s_without) := ⟨rfl, rfl, rfl, by decide +kernel, rfl, by decide +kernel, by decide +kernel⟩
abbrev s_harmful_orders : Stmt := top 42
abbrev N_harmful_orders : List Str := ["net", "present", "index"]
abbrev P_harmful_orders : List Str := ["net"]
theorem sc_harmful_orders : FnScope N_harmful_orders P_harmful_orders (defScope s_harmful_orders) := ⟨rfl, rfl, rfl, by decide +kernel, rfl, by decide +kernel, by decide +kernel⟩
/-! ### the orders that do harm -/
def spWithout (C : Addr) : Sp := fun vs H Q _ => ∃ (x t : Addr) (p h k : Nat) (os : List Od) (F : List Addr), vs = [.ref x, .int k] ∧ NetAt C H x p h os t F ∧ NetOk p h os ∧
  ∀ H' x' t' F', Same H H' → NetAt C H' x' p h (wo os k) t' F' → Q (.ref x') H'
def harmN (p h : Nat) (os : List Od) : List Nat := (List.range os.length).filter fun k => decide (chN p h (wo os k) < chN p h os)
def spHarm (C : Addr) : Sp := fun vs H Q _ => ∃ (x t : Addr) (p h : Nat) (os : List Od) (F : List Addr), vs = [.ref x] ∧ NetAt C H x p h os t F ∧ NetOk p h os ∧
  ∀ H' r, Same H H' → H r = none → H' r = some (.lst (nints (harmN p h os))) → Q (.ref r) H'
section
variable {P : Program} {w : World} {K : PySem.W.Frag} {mg : Str → Option Value} {base : Heap}
theorem ok_without {f C fI : Addr} {fd fdI : FuncData} (F : Fun K "without" "without" s_without f fd) (T : NetT K C) (M : Mk K C fI) (gC : mg "Net" = some (.ref C)) (GI : FnOk P w K mg base CX0 5 fI fdI P_Net_init (spInit C)) (bI : Binds K fdI P_Net_init [])
    (DO : Df P w K mg base "without_order" 1 P_without_order spWo) : FnOk P w K mg base CX0 7 f fd P_without (spWithout C) := by
  obtain ⟨fO, fdO, gO, kO, bO, GO⟩ := DO
  refine F.ok sc_without (fun vs H Q E h => ?_) (fun cdv A outer s H vs Q E hr h => ?_)
  · obtain ⟨x, t, p, h, k, os, F, rfl, _⟩ := h
    rfl
  · obtain ⟨x, t, p, h, k, os, F, rfl, Nt, ok, q⟩ := h
    have hr1 : Room 1 _ := hr.mono (by decide)
    refine ⟨_, pss_one (ps_ret (pe_make M GI hr (by rfl) gC bI .nil pass0 (pa_cons (pe_fld (pv 0) rfl) (pa_cons (pe_fld (pv 0) rfl) (pa_cons (pe_call GO hr1 (by rfl) gO kO bO .nil pass0 (pa_cons (pe_fld (pv 0) rfl) (pa_cons (pv 1) pa_nil))) pa_nil))))), ?_⟩
    obtain ⟨dx, fl, as, _, hx, ⟨ts, ht, hP⟩, _⟩ := id Nt
    have tl := hP.length
    have ol := ok.len
    refine ⟨_, rfl, x, C, dx, _, _, rfl, hx, T.cl, T.nP, nf_pe, _, rfl, x, C, dx, _, _, rfl, hx, T.cl, T.nH, nf_ho, ?_⟩
    refine ⟨_, rfl, x, C, dx, _, _, rfl, hx, T.cl, T.nO, nf_or, _, rfl, t, k, ts, rfl, ht, by omega, fun H3 c s123 hc => ?_⟩
    intro x' dx' nx ndx nex
    have s0 : Same H3 (upd (upd H3 dx' (.own x')) x' (.ins C dx' [])) := same_updN (same_upd ndx) nx
    refine ⟨x', dx', c, p, h, wo os k, H3, rfl, wo_ok ok, ?_, s0, nx, upd_same, fun H' F' s4 nF N => ⟨rfl, q H' x' c F' (s123.trans s4) N⟩⟩
    refine ⟨_, s0 _ _ hc, ?_⟩
    have hP3 := OrdsAt.keep (tk_of (s123.trans s0)) hP
    exact Paired.app (Paired.take hP3 k) (pair_drop hP3 (k + 1))
theorem ok_harm {f C : Addr} {fd : FuncData} (F : Fun K "harmful_orders" "harmful_orders" s_harmful_orders f fd) (B : Blt mg) (T : NetT K C) (DC : Df P w K mg base "count_chasing" 5 P_count_chasing (spChasing C)) (DW : Df P w K mg base "without" 7 P_without (spWithout C)) : FnOk P w K mg base CX0 8 f fd P_harmful_orders (spHarm C) := by
  obtain ⟨fC, fdC, gC, kC, bC, GC⟩ := DC
  obtain ⟨fW, fdW, gW, kW, bW, GW⟩ := DW
  refine F.ok sc_harmful_orders (fun vs H Q E h => ?_) (fun cdv A outer s H vs Q E hr h => ?_)
  · obtain ⟨x, t, p, h, os, F, rfl, _⟩ := h
    rfl
  · obtain ⟨x, t, p, h, os, F, rfl, Nt, ok, q⟩ := h
    have hr4 : Room 5 _ := hr.mono (by decide)
    refine ⟨_, pss_cons (ps_set (i := 1) sc_harmful_orders.nd rfl (.inr rfl) (pe_call GC hr4 (by rfl) gC kC bC .nil pass0 (pa_cons (pv 0) pa_nil)))
      (pss_one (ps_ret (pe_lc (own := [("index", 2)]) (g := gName 2) (by rfl) sc_harmful_orders.nd (pi_range1 rfl B.range (pa_cons (pe_callB call_len_seq (by rfl) B.len PySem.boot_len (pa_cons (pe_fld (pv 0) rfl) pa_nil)) pa_nil))
          (blkOk_by (N := N_harmful_orders) (sc := defScope s_harmful_orders) (by decide +kernel)) (fun _ _ _ _ _ => pg_name (i := 2) sc_harmful_orders.nd rfl (.inl rfl))
          (fun _ _ _ _ _ => pts_one (pt_cmpR op_lt (pe_call GC hr4 (by rfl) gC kC bC .nil pass0 (pa_cons (pe_call GW hr (by rfl) gW kW bW .nil pass0 (pa_cons (pv 0) (pa_cons (pv 2) pa_nil))) pa_nil)) (pv 1) (nomark _))) (fun _ _ _ _ _ => pv 2)))), ?_⟩
    have ol := ok.len
    refine ⟨_, rfl, x, t, p, h, os, F, rfl, Nt, ok, fun H1 s1 => ?_⟩
    have N1 := Nt.same s1
    obtain ⟨dx, fl, as, _, hx, ⟨ts, ht, hP⟩, _⟩ := id N1
    have tl := hP.length
    refine ⟨_, rfl, x, C, dx, _, _, rfl, hx, T.cl, T.nO, nf_or, t, ts, rfl, .inr (SqT.of ht), ((ts.length : Nat) : Int), rfl, by omega, by omega, fun D nD => ?_⟩
    refine lc_rfiltS (fun k => decide (chN p h (wo os k) < chN p h os)) (show ((ts.length : Nat) : Int).toNat = os.length by omega) (by omega) nD (fun _ => rfl) (fun _ => rfl) ?_ ?_
    · intro i H2 Q' hi s2 hQ
      refine ⟨_, rfl, _, rfl, x, t, p, h, i, os, F, rfl, N1.same s2, ok, fun H3 x' t' F' s3 N3 => ?_⟩
      refine ⟨x', t', p, h, wo os i, F', rfl, N3, wo_ok ok, fun H4 s4 => ?_⟩
      refine ⟨_, rfl, _, _, rfl, rfl, _, rfl, ?_⟩
      have e : decide ((chN p h (wo os i) : Int) < (chN p h os : Int)) = decide (chN p h (wo os i) < chN p h os) := by
        by_cases c : chN p h (wo os i) < chN p h os
        · rw [decide_eq_true c, decide_eq_true (by omega)]
        · rw [decide_eq_false c, decide_eq_false (by omega)]
      rw [e]
      exact hQ H4 (s3.trans s4)
    · intro H2 s2 hD
      exact q H2 D (s1.trans s2) (s1.free nD) hD
end
/-! ### t.count(x), max(t, default=d), t a tuple -/
section
open PySem.Spec PyProof.Rows
open PySem.W (alike alikeAll dataLt maxD AlikeAll max_tuple_default)
def rCntT (K : PySem.W.Frag) : V → List V → Hp → VK → Prop := fun x xs H Q => ∃ (a : Addr) (ys : List V) (y : V) (d : PyData) (ds : List PyData), x = V.ref a ∧ xs = [y] ∧ SqT K H a ys ∧ DpAll K H ys ds ∧ Dp K H y d ∧ PyData.plainAll ds = true ∧ d.plain = true ∧ d.depth ≤ 60 ∧ Q (.int ((ds.countP fun z => PyData.eqv z d : Nat) : Int)) H
theorem mt_countT {X : Cx} (hu : X.A.units + 65 < cLine) : MtR X "tuple.count" (rCntT X.K) := by
  intro pins s σ H x xs v us Q I rx rxs h
  obtain ⟨a, ys, y, d, ds, rfl, rfl, hl, hds, hd, p1, p2, hdp, q⟩ := h
  cases rx
  cases rxs with
  | cons ry rt =>
    rename_i uy ut
    cases rt
    obtain ⟨bs, r1⟩ := Dp.reads I d y uy hd ry
    obtain ⟨its, rv, hL, _⟩ := I.tuple hl
    obtain ⟨as, hr⟩ := Dp.readsAll I ds ys its hds rv
    refine PySem.SeqAt.count_tuple_data hL hr r1 p1 p2 (by omega) ⟨.int _, H, I.tok _, ⟨_, rfl⟩, q⟩
def rMaxDefT (K : PySem.W.Frag) : List V → List V → Hp → VK → Prop := fun vs zs H Q => ∃ (a : Addr) (ns : List Int) (d : V), vs = [V.ref a] ∧ zs = [d] ∧ SqT K H a (ns.map V.int) ∧ (ns = [] → Q d H) ∧ ∀ m, m ∈ ns → (∀ y, y ∈ ns → y ≤ m) → Q (.int m) H
theorem cr_maxDefT {X : Cx} (hc : X.calm = true) (hu : X.A.units + 65 < cLine) : CallRK X (.builtin "max") [Str.ofString "default"] (rMaxDefT X.K) := by
  intro pins s σ H vs zs us ws Q I r rz h
  obtain ⟨a, ns, d, rfl, rfl, hs, q0, q⟩ := h
  obtain ⟨its, rv, hl, _⟩ := I.tuple hs
  rw [Vals.ref1 r]
  cases rz with
  | cons rd rt =>
    cases rt
    rename_i dv
    obtain ⟨as, hr⟩ := Dp.readsAll I (ns.map PyData.int) (ns.map V.int) its (ints_dp ns) rv
    refine max_tuple_default (I.ok.hd hc) hl hr (ints_alike ns) (by rw [ints_depth]; omega) (fun e h' tk hk => ?_) fun y ys i v h' tk bs e hi rd' hk => ?_
    · exact ⟨d, H, I.kept (t' := tk) hk, rd, q0 (List.map_eq_nil_iff.mp e)⟩
    · cases ns with
      | nil => cases e
      | cons n ns =>
        rw [List.map_cons] at e
        injection e with e1 e2
        subst e1
        subst e2
        rw [maxD_int] at rd'
        obtain ⟨m1, m2⟩ := maxI_spec ns n
        have hi2 : its[i]? = some v := by simpa using hi
        have hil : i < (List.map V.int (n :: ns)).length := by
          rw [rv.length]
          exact (List.getElem?_eq_some_iff.mp hi2).1
        obtain ⟨u, hu2, ru⟩ := rv.get (List.getElem?_eq_getElem hil)
        obtain rfl : u = v := Option.some.inj (hu2.symm.trans hi2)
        cases rd'
        exact ⟨.int _, H, I.kept (t' := tk) hk, ⟨_, rfl⟩, q _ m1 m2⟩
end
/-! ### tuples whose object is known: `(x,)`, `t + u`, t.count(x) -/
section
open PySem.Spec PyProof.Rows
/-- a tuple's object: no dict of its own -/
def TO (o : Obj) : Prop := o.cls = .type "tuple" ∧ o.dict = none
def FzT (H : Hp) (a : Addr) (xs : List V) : Prop := ∃ o, TO o ∧ H a = some (.frz o (.tup xs))
theorem FzT.sq {K : PySem.W.Frag} {H : Hp} {a : Addr} {xs : List V} (f : FzT H a xs) : SqT K H a xs := by
  obtain ⟨o, _, e⟩ := f
  exact .inl (.inr ⟨o, e⟩)
def tTupF (t : TA) : TE := fun ρ H Q => t ρ H fun ys H1 => ys.length ≤ sizeLine ∧ ∀ a o, H1 a = none → TO o → Q (.ref a) (upd H1 a (.frz o (.tup ys)))
theorem pe_tupF {X : Cx} {es : List Expr} {t : TA} {pos : Pos} {x1} (ha : PA X es t) : PE X (.Tuple es x1 pos) (tTupF t) := by
  constructor
  intro pns sh ρ H Qv Iv hq
  refine wpAny_Tuple_spliced (thn (ha.run pos pns sh ρ H _ Iv hq) fun ws s1 ⟨ys, H1, I1, rv, zl, q⟩ => ⟨by rw [← rv.length]; exact zl, ?_⟩)
  have nf : H1 s1.heap.objs.size = none := I1.hok.fresh (Nat.le_refl _)
  refine ⟨.ref s1.heap.objs.size, _, I1.laid (t' := s1.toks) (o := .frz { cls := .type "tuple", data := .seq ws.toArray } (.tup ys)) (fun b u e => Heap.get?_push_of_some _ e) (Nat.le_refl _) ?_, rfl, q _ _ nf ⟨rfl, rfl⟩⟩
  exact ⟨Heap.get?_push_size _ rfl, zl, ws, rv, ⟨_, Heap.get?_push_size _ rfl, rfl, _, rfl⟩⟩
/-- t + u, u not empty -/
def rCatF (K : PySem.W.Frag) : R2 := fun x y H Q => ∃ a b xs ys, x = .ref a ∧ y = .ref b ∧ SqT K H a xs ∧ SqT K H b ys ∧ ys ≠ [] ∧ xs.length + ys.length ≤ sizeLine ∧
  (xs = [] → Q (.ref b) H) ∧ (xs ≠ [] → ∀ p o, H p = none → TO o → Q (.ref p) (upd H p (.frz o (.tup (xs ++ ys)))))
theorem op_catF {X : Cx} : OpR X (binaryOp .Add) (rCatF X.K) := by
  intro pns sh ρ H x y v u Qv Iv rx ry hx
  obtain ⟨a, b, xs, ys, rfl, rfl, ha, hb, ny, zl, q0, q1⟩ := hx
  by_cases e0 : xs = []
  · subst e0
    exact op_catA pns sh ρ H _ _ v u Qv Iv rx ry ⟨a, b, [], ys, rfl, rfl, ha, hb, zl, fun _ => q0 rfl, fun z => absurd rfl z, fun z => absurd rfl z⟩
  · cases rx
    cases ry
    obtain ⟨ws, r1, p1, _⟩ := Iv.tuple ha
    obtain ⟨zs, r2, p2, _⟩ := Iv.tuple hb
    refine HT.cat_tup p1 p2 (fun z => e0 (r1.nil_iff.mp z)) (fun z => absurd (r2.nil_iff.mp z) ny) (fun z => ?_) (by rw [← r1.length, ← r2.length]; exact zl)
    refine ⟨.ref sh.heap.objs.size, _, Iv.laid (t' := sh.toks) (o := .frz { cls := .type "tuple", data := .seq (ws ++ zs).toArray } (.tup (xs ++ ys))) (fun b ob q => Heap.get?_push_of_some _ q) (Nat.le_refl _) ?_, rfl, q1 e0 _ _ (Iv.hok.fresh (Nat.le_refl _)) ⟨rfl, rfl⟩⟩
    exact ⟨Heap.get?_push_size _ rfl, by rw [List.length_append]; exact zl, _, r1.append r2, ⟨_, Heap.get?_push_size _ rfl, rfl, _, rfl⟩⟩
/-- t.m(..), t such a tuple -/
def tBMF (r : V → List V → Hp → VK → Prop) (to : TE) (t : TA) : TE := fun ρ H Q => to ρ H fun x H1 => (∃ a xs, x = .ref a ∧ FzT H1 a xs) ∧ t ρ H1 fun ys H2 => r x ys H2 Q
theorem pe_bmF {X : Cx} {o e : Expr} {es : List Expr} {to : TE} {t : TA} {r : V → List V → Hp → VK → Prop} {name : Str} {id : String} {apos cpos : Pos} (pa : PlainAttrs "tuple") (slot : Slot "tuple" name id) (hty : typeOf (.builtin id) = pure (.type "method_descriptor")) (hm : MtR X id r) (ho : PE X o to) (ha : PA X (e :: es) t)
    (hbase : attributeBase o name X.env (eval o X.env) = eval o X.env := by rfl)
    (hfew : ((backTo cpos (starEach (e :: es) X.env)).all (fun z => !z.1) && (backToKw cpos (keywordEach [] X.env)).all (fun z => z.1.isSome) && decide ((e :: es).length + ([] : List Keyword).length + (if ([] : List Keyword).isEmpty then 0 else 1) < 30)) = true := by rfl)
    (hline : (apos.endLine == cpos.line) = true := by rfl) (hs : starEach (e :: es) X.env = (false, eval e X.env) :: starEach es X.env := by rfl) (hplain : (backTo cpos (starEach es X.env)).any (·.1) = false := by rfl) :
    PE X (.Call (.Attribute o name apos) (e :: es) [] cpos) (tBMF r to t) := by
  constructor
  intro pns sh ρ H Qv Iv hx
  refine wpAny_Call_method_late hbase hfew hline rfl (thn (ho.run pns sh ρ H _ Iv hx) fun v s1 ⟨x, H1, I1, r1, ⟨a, xs, ex, ob, ⟨oc, od⟩, eo⟩, q1⟩ => ?_)
  subst ex
  cases r1
  obtain ⟨hob, _⟩ := I1.hok a _ eo
  refine ⟨"tuple", id, pa, slot, hty, ⟨ob, hob, oc⟩, fun b e => ?_, ?_⟩
  · cases e
    exact ⟨ob, hob, od⟩
  have hA := ha.run cpos pns s1 ρ H1 _ I1 q1
  rw [hs] at hA ⊢
  refine Calls.callWith_builtin (by show (false || (backTo cpos (starEach es X.env)).any (·.1)) = false; rw [hplain] <;> rfl) (Calls.evalArgs_plain ?_)
  exact thn hA fun us s2 ⟨vs, H2, I2, r2, q2⟩ => hm pns s2 ρ H2 (.ref a) vs (.ref a) us Qv I2 rfl r2 q2
end
/-! ### xs[::-1] -/
section
open PySem.Spec PyProof.Rows
theorem vals_rev : ∀ {xs : List V} {us : List Value}, Vals xs us → Vals xs.reverse us.reverse
  | _, _, .nil => .nil
  | _, _, .cons r t => by
    rw [List.reverse_cons, List.reverse_cons]
    exact Vals.append (vals_rev t) (.cons r .nil)
def tRevL (K : PySem.W.Frag) (te ts : TE) : TE := fun ρ H Q => te ρ H fun x H1 => ts ρ H1 fun y H2 => y = .int (-1) ∧ ∃ a xs, x = .ref a ∧ SqL K H2 a xs ∧ ∀ p, H2 p = none → Q (.ref p) (upd H2 p (.lst xs.reverse))
theorem pe_revL {X : Cx} {e st : Expr} {te ts : TE} {p2 pos : Pos} (he : PE X e te) (hst : PE X st ts) : PE X (.Subscript e (.Slice none none (some st) p2) pos) (tRevL X.K te ts) := by
  constructor
  intro pns sh ρ H Qv Iv hq
  refine Subscript_ (thn (he.run pns sh ρ H _ Iv hq) fun v s1 ⟨x, H1, I1, r1, q1⟩ => ?_)
  refine wpAny_Slice ?_
  rw [evalPart_none]
  refine wpAny_pure (wpAny_pure ?_)
  rw [evalPart_some]
  refine thn (hst.run pns s1 ρ H1 _ I1 q1) fun vs s3 ⟨y, H3, I3, r3, ey, a, xs, ex, hx, q⟩ => ?_
  subst ey
  subst ex
  obtain ⟨tk, rfl⟩ := r3
  cases r1
  have I4 : Inv X pns ρ H3 { s3 with heap := s3.heap.push { cls := .type "slice", data := .fields #[.none, .none, .int (-1) tk] } } := I3.kept (t' := s3.toks) fun b ob z => Heap.get?_push_of_some _ z
  obtain ⟨ws, rv, ht, hz⟩ := I4.list hx
  have hlen := rv.length
  show wpAny (model X.prog X.w) X.A (subscriptTail e (.Slice none none (some st) p2) (.ref a) (.ref s3.heap.objs.size)) (EP X pns ρ Qv) X.xe { s3 with heap := s3.heap.push { cls := .type "slice", data := .fields #[.none, .none, .int (-1) tk] } }
  refine tail_any (ops := [.ref a, .ref s3.heap.objs.size]) ht.isList.typeIs slot_list_getitem.lookup ?_ (by with_unfolding_all rfl)
  refine wpAny_getItem_list_slice ht.isList (Heap.IsSliceOf.new ..) .none .none (.int (-1) tk) (by decide) ?_ (by rw [List.size_toArray] <;> omega)
  rw [PySem.W.krv_pick]
  refine ⟨.ref _, _, I4.laid (t' := s3.toks) (o := .lst xs.reverse) (fun b ob z => Heap.get?_push_of_some _ z) (Nat.le_refl _) ?_, rfl, q _ (I4.hok.fresh (Nat.le_refl _))⟩
  exact ⟨by rw [List.length_reverse]; exact hz, ws.reverse, 0, vals_rev rv, Heap.get?_push_size _ rfl⟩
end
/-! ### plans: orders that hold longer -/
def prO (l : List Nat) (k : Nat) (o : Od) : Od := { o with n := o.n + l.count k }
/-- the orders, each longer by as many days as its number comes in the plan -/
def prol (l : List Nat) (os : List Od) : List Od := os.mapIdx fun k o => prO l k o
theorem prol_take {l : List Nat} {os : List Od} {i : Nat} {o : Od} (e : os[i]? = some o) : prol l (os.take (i + 1)) = prol l (os.take i) ++ [prO l i o] := by
  unfold prol
  have il := (List.getElem?_eq_some_iff.mp e).1
  rw [List.take_add_one, e, Option.toList_some, List.mapIdx_append]
  have : (os.take i).length = i := by rw [List.length_take]; omega
  simp [this]
theorem prol_len {l : List Nat} {os : List Od} : (prol l os).length = os.length := by
  unfold prol
  exact List.length_mapIdx
/-- no order would hold on more days than the period has -/
def mayB (p : Nat) (os : List Od) (l : List Nat) : Bool := l.all fun k => match os[k]? with
  | some o => decide (o.n + l.count k ≤ p)
  | none => false
theorem prol_ok {p h : Nat} {os : List Od} {l : List Nat} (ok : NetOk p h os) (m : mayB p os l = true) : NetOk p h (prol l os) := by
  refine { ok with len := by rw [prol_len]; exact ok.len, ok := fun o' ho => ?_ }
  obtain ⟨i, hi⟩ := List.getElem?_of_mem ho
  unfold prol at hi
  rw [List.getElem?_mapIdx] at hi
  obtain ⟨o, eo, rfl⟩ := Option.map_eq_some_iff.mp hi
  have k0 := ok.ok o (List.mem_of_getElem? eo)
  have kn := k0.n
  have k1 := k0.n1
  refine ⟨k0.s, k0.t, k0.st, k0.f, ?_, ?_, k0.e1, k0.e⟩
  · show 1 ≤ o.n + l.count i
    omega
  · show o.n + l.count i ≤ p
    by_cases c : i ∈ l
    · have := List.all_eq_true.mp m i c
      rw [eo] at this
      exact of_decide_eq_true this
    · rw [List.count_eq_zero_of_not_mem c]
      omega
/-- what is known to the object stays so -/
def FK (H H' : Hp) : Prop := ∀ b o u, H b = some (.frz o u) → H' b = some (.frz o u)
theorem fk_of {H H' : Hp} (s : Same H H') : FK H H' := fun b _ _ e => s b _ e
theorem FK.trans {H H1 H2 : Hp} (a : FK H H1) (b : FK H1 H2) : FK H H2 := fun c o u e => b c o u (a c o u e)
theorem FK.lst {H : Hp} {d : Addr} {xs : List V} {o : HO} (h : H d = some (.lst xs)) : FK H (upd H d o) := fun b _ _ e => by
  rw [upd_ne (ne_of e h (by intro z; cases z))]
  exact e
theorem FzT.keep {H H' : Hp} {a : Addr} {xs : List V} (k : FK H H') (f : FzT H a xs) : FzT H' a xs := by
  obtain ⟨o, t, e⟩ := f
  exact ⟨o, t, k _ _ _ e⟩
def PlanAt (H : Hp) (v : V) (l : List Nat) : Prop := ∃ u, v = .ref u ∧ FzT H u (nints l)
theorem PlanAt.keep {H H' : Hp} {v : V} {l : List Nat} (k : FK H H') (q : PlanAt H v l) : PlanAt H' v l := by
  obtain ⟨u, e, hu⟩ := q
  exact ⟨u, e, hu.keep k⟩
theorem PlansAt.keep {H H' : Hp} {vs : List V} {l : List (List Nat)} (k : FK H H') (q : Paired (PlanAt H) vs l) : Paired (PlanAt H') vs l := Paired.mapP q fun _ _ z => z.keep k
def OptPlan (H : Hp) (v : V) : Option (List Nat) → Prop
  | none => v = .non
  | some l => PlanAt H v l
theorem nints_dps {K : PySem.W.Frag} {H : Hp} : ∀ l : List Nat, DpAll K H (nints l) (l.map fun (n : Nat) => PyData.int n)
  | [] => .nil
  | _ :: l => .cons (.int _) (nints_dps l)
theorem cnt_ints (l : List Nat) (k : Nat) : ((l.map fun (n : Nat) => PyData.int n).countP fun z => PyData.eqv z (.int k)) = l.count k := by
  induction l with
  | nil => rfl
  | cons n r ih =>
    rw [List.map_cons, List.countP_cons, ih, List.count_cons]
    have e : PyData.eqv (.int (n : Nat)) (.int (k : Nat)) = (n == k) := by
      rw [int_eqv]
      by_cases c : n = k
      · rw [decide_eq_true (by rw [c]), c, beq_self_eq_true]
      · rw [decide_eq_false (by omega), beq_eq_false_iff_ne.mpr c]
    rw [e]
theorem ints_plain (l : List Nat) : PyData.plainAll (l.map fun (n : Nat) => PyData.int n) = true := by
  induction l with
  | nil => rfl
  | cons n r ih => simp [PyData.plainAll, PyData.plain, ih]
def spProlonged (C : Addr) : Sp := fun vs H Q _ => ∃ (x t : Addr) (v : V) (p h : Nat) (os : List Od) (l : List Nat) (F : List Addr), vs = [.ref x, v] ∧ PlanAt H v l ∧ NetAt C H x p h os t F ∧ NetOk p h os ∧ NetOk p h (prol l os) ∧
  ∀ H' x' t' F', Same H H' → NetAt C H' x' p h (prol l os) t' F' → Q (.ref x') H'
def spMay (C : Addr) : Sp := fun vs H Q _ => ∃ (x t : Addr) (v : V) (p h : Nat) (os : List Od) (l : List Nat) (F : List Addr), vs = [.ref x, v] ∧ PlanAt H v l ∧ l.length ≤ 1000 ∧ (∀ k ∈ l, k < os.length) ∧ NetAt C H x p h os t F ∧ NetOk p h os ∧
  ∀ H', Same H H' → Q (.bl (mayB p os l)) H'
abbrev s_list_plans : Stmt := top 44
abbrev N_list_plans : List Str := ["many", "size", "plans", "place", "plan", "number"]
abbrev P_list_plans : List Str := ["many", "size"]
theorem sc_list_plans : FnScope N_list_plans P_list_plans (defScope s_list_plans) := ⟨rfl, rfl, rfl, by decide +kernel, rfl, by decide +kernel, by decide +kernel⟩
/-! ### all plans of a size -/
def maxN (l : List Nat) : Nat := l.foldl max 0
def longer (many : Nat) (l : List Nat) : List (List Nat) := ((List.range many).filter fun n => decide (maxN l ≤ n)).map fun n => l ++ [n]
def plansN (many : Nat) : Nat → List (List Nat)
  | 0 => [[]]
  | s + 1 => (plansN many s).flatMap (longer many)
theorem longer_len {many : Nat} {l : List Nat} : (longer many l).length ≤ many := by
  unfold longer
  rw [List.length_map]
  exact Nat.le_trans (List.length_filter_le _ _) (by rw [List.length_range]; exact Nat.le_refl _)
theorem flat_le {many : Nat} : ∀ ls : List (List Nat), (ls.flatMap (longer many)).length ≤ ls.length * many
  | [] => by simp
  | l :: ls => by
    rw [List.flatMap_cons, List.length_append, List.length_cons, Nat.succ_mul]
    have := flat_le (many := many) ls
    have := longer_len (many := many) (l := l)
    omega
theorem plansN_len {many : Nat} : ∀ s, (plansN many s).length ≤ many ^ s
  | 0 => Nat.le_refl _
  | s + 1 => by
    show ((plansN many s).flatMap (longer many)).length ≤ _
    rw [Nat.pow_succ]
    exact Nat.le_trans (flat_le _) (Nat.mul_le_mul_right _ (plansN_len s))
theorem plansN_mem {many : Nat} : ∀ s, ∀ l ∈ plansN many s, l.length = s ∧ ∀ n ∈ l, n < many
  | 0 => fun l hl => by
    rw [List.mem_singleton.mp hl]
    exact ⟨rfl, fun n hn => by cases hn⟩
  | s + 1 => fun l hl => by
    obtain ⟨l0, h0, h1⟩ := List.mem_flatMap.mp hl
    obtain ⟨n, hn, rfl⟩ := List.mem_map.mp h1
    obtain ⟨e, k⟩ := plansN_mem s l0 h0
    refine ⟨by rw [List.length_append, e]; rfl, fun m hm => ?_⟩
    rcases List.mem_append.mp hm with z | z
    · exact k m z
    · rw [List.mem_singleton.mp z]
      exact List.mem_range.mp (List.mem_filter.mp hn).1
theorem maxN_spec (l : List Nat) : (∀ n ∈ l, n ≤ maxN l) ∧ (l = [] → maxN l = 0) ∧ (l ≠ [] → maxN l ∈ l) := by
  have g : ∀ (l : List Nat) (a : Nat), a ≤ l.foldl max a ∧ (∀ n ∈ l, n ≤ l.foldl max a) ∧ (l.foldl max a = a ∨ l.foldl max a ∈ l) := by
    intro l
    induction l with
    | nil => exact fun a => ⟨Nat.le_refl _, (fun n h => by cases h), .inl rfl⟩
    | cons x r ih =>
      intro a
      obtain ⟨g1, g2, g3⟩ := ih (max a x)
      refine ⟨Nat.le_trans (Nat.le_max_left _ _) g1, fun n hn => ?_, ?_⟩
      · rcases List.mem_cons.mp hn with z | z
        · rw [z]
          exact Nat.le_trans (Nat.le_max_right _ _) g1
        · exact g2 n z
      · rcases g3 with g3 | g3
        · by_cases c : a ≤ x
          · refine .inr ?_
            show r.foldl max (max a x) ∈ _
            rw [g3, Nat.max_eq_right c]
            exact List.mem_cons_self ..
          · refine .inl ?_
            show r.foldl max (max a x) = a
            rw [g3, Nat.max_eq_left (by omega)]
        · exact .inr (List.mem_cons_of_mem _ g3)
  obtain ⟨g1, g2, g3⟩ := g l 0
  refine ⟨g2, fun e => by rw [e]; rfl, fun ne => ?_⟩
  rcases g3 with g3 | g3
  · cases l with
    | nil => exact absurd rfl ne
    | cons x r =>
      have e := g2 x (List.mem_cons_self ..)
      rw [g3] at e
      have : x = 0 := by omega
      show (x :: r).foldl max 0 ∈ x :: r
      rw [g3, this]
      exact List.mem_cons_self ..
  · exact g3
theorem maxDef_N {K : PySem.W.Frag} {u : Addr} {l : List Nat} {H : Hp} {Q : VK} (f : SqT K H u ((l.map fun (n : Nat) => (n : Int)).map V.int)) (q : Q (.int (maxN l : Nat)) H) : rMaxDefT K [.ref u] [.int 0] H Q := by
  obtain ⟨m1, m2, m3⟩ := maxN_spec l
  refine ⟨u, _, _, rfl, rfl, f, fun e => ?_, fun m hm hy => ?_⟩
  · have e2 := m2 (List.map_eq_nil_iff.mp e)
    rw [e2] at q
    exact q
  · obtain ⟨n, hn, rfl⟩ := List.mem_map.mp hm
    have ne : l ≠ [] := fun z => by rw [z] at hn; cases hn
    have h1 := m1 n hn
    have h2 := hy _ (List.mem_map.mpr ⟨_, m3 ne, rfl⟩)
    have e : n = maxN l := by omega
    rw [e]
    exact q
/-- an outer list, an inner range -/
theorem lc2_lst {K : PySem.W.Frag} {a : Addr} {xs : List V} {g : TG} {tt tt1 : TT} {wi1 : TI} {g1 : TG} {te : TE} {ws ws1 : List Nat} {ρ : L2.St} {H0 : Hp} {L : Addr} {Qe : Hp → Prop} (J : Nat → Hp → Prop) (j0 : J 0 (upd H0 L (.lst []))) (hl : ∀ i H, J i H → SqL K H a xs)
    (go : ∀ i x H, xs[i]? = some x → J i H → g x (wipe ρ ws) H fun ρ2 H2 => wipe ρ2 ws = wipe ρ ws ∧ tt ρ2 H2 fun b H3 =>
      if b = true then wi1 ρ2 H3 fun It1 H4 => ∃ W1 : Nat → Nat → Hp → Prop, (∃ m, W1 0 m H4) ∧ ∀ j k H, W1 j k H →
          (It1.stop j H ∧ J (i + 1) H) ∨ (It1.go j H ∧ ∃ Nx1 : Hp → Prop, (∀ H', Nx1 H' → ∃ k', k' < k ∧ W1 (j + 1) k' H') ∧ ∀ x H', It1.yld j H x H' → g1 x (wipe ρ2 ws1) H' fun ρ3 H5 => wipe ρ3 ws1 = wipe ρ2 ws1 ∧ tt1 ρ3 H5 fun b H6 =>
            if b = true then te ρ3 H6 fun y H7 => ∃ acc, H7 L = some (.lst acc) ∧ acc.length < sizeLine ∧ Nx1 (upd H7 L (.lst (acc ++ [y]))) else Nx1 H6)
      else J (i + 1) H3) (je : ∀ H, J xs.length H → Qe H) :
    ∃ W : Nat → Nat → Hp → Prop, (∃ m, W 0 m (upd H0 L (.lst []))) ∧ ∀ i m H, W i m H →
      ((Itl K a).stop i H ∧ Qe H) ∨ ((Itl K a).go i H ∧ ∃ Nx : Hp → Prop, (∀ H', Nx H' → ∃ m', m' < m ∧ W (i + 1) m' H') ∧ ∀ x H', (Itl K a).yld i H x H' → g x (wipe ρ ws) H' fun ρ2 H2 => wipe ρ2 ws = wipe ρ ws ∧ tt ρ2 H2 fun b H3 =>
        if b = true then wi1 ρ2 H3 fun It1 H4 => ∃ W1 : Nat → Nat → Hp → Prop, (∃ m, W1 0 m H4) ∧ ∀ j k H, W1 j k H →
          (It1.stop j H ∧ Nx H) ∨ (It1.go j H ∧ ∃ Nx1 : Hp → Prop, (∀ H', Nx1 H' → ∃ k', k' < k ∧ W1 (j + 1) k' H') ∧ ∀ x H', It1.yld j H x H' → g1 x (wipe ρ2 ws1) H' fun ρ3 H5 => wipe ρ3 ws1 = wipe ρ2 ws1 ∧ tt1 ρ3 H5 fun b H6 =>
            if b = true then te ρ3 H6 fun y H7 => ∃ acc, H7 L = some (.lst acc) ∧ acc.length < sizeLine ∧ Nx1 (upd H7 L (.lst (acc ++ [y]))) else Nx1 H6)
        else Nx H3) := by
  refine ⟨fun i m H => m + i = xs.length ∧ J i H, ⟨xs.length, rfl, j0⟩, fun i m H ⟨e, j⟩ => ?_⟩
  have hq := hl i H j
  rcases Nat.lt_or_ge i xs.length with lt | ge
  · have ex := List.getElem?_eq_getElem lt
    refine .inr ⟨⟨xs, xs[i], hq, ex⟩, J (i + 1), fun H' j' => ⟨m - 1, by omega, by omega, j'⟩, fun x H' y => ?_⟩
    obtain ⟨e1, f⟩ := y
    subst e1
    obtain rfl := Option.some.inj ((f xs hq).symm.trans ex)
    exact go i _ _ ex j
  · obtain rfl : i = xs.length := by omega
    exact .inl ⟨⟨xs, hq, Nat.le_refl _⟩, je H j⟩
def spPlans : Sp := fun vs H Q _ => ∃ many size : Nat, vs = [.int many, .int size] ∧ many ≤ 20 ∧ size ≤ 3 ∧ ∀ H' r vs', Same H H' → H' r = some (.lst vs') → Paired (PlanAt H') vs' (plansN many size) → Q (.ref r) H'
section
variable {P : Program} {w : World} {K : PySem.W.Frag} {mg : Str → Option Value} {base : Heap}
theorem ok_plans {f : Addr} {fd : FuncData} (F : Fun K "list_plans" "list_plans" s_list_plans f fd) (B : Blt mg) (zm : mg "max" = none) : FnOk P w K mg base CX0 1 f fd P_list_plans spPlans := by
  refine F.ok sc_list_plans (fun vs H Q E h => ?_) (fun cdv A outer s H vs Q E hr h => ?_)
  · obtain ⟨many, size, rfl, _⟩ := h
    rfl
  · obtain ⟨many, size, rfl, hm, hs, q⟩ := h
    have hu : (A.deeper (PyProof.Rows.envOfC "list_plans" (defScope s_list_plans) s.heap.objs.size f cdv)).units + 65 < cLine := by
      have := hr.un
      omega
    refine ⟨_, pss_cons (ps_set (i := 2) sc_list_plans.nd rfl (.inl rfl) (pe_lst (pa_cons (pe_tupF pa_nil) pa_nil)))
      (pss_cons (ps_for PassesOwn.never rfl (pi_range1 rfl B.range (pa_cons (pv 1) pa_nil)) (pg_name (i := 3) sc_list_plans.nd rfl (.inl rfl))
        (pss_one (ps_setLc2 (i := 2) (own := [("plan", 4), ("number", 5)]) (vs1 := [5]) (g := gName 4) (g1 := gName 5) (tt := tYes) (wi1 := iRng1 (tCons (tVar 0) tNil)) (tt1 := tTest (tOp (rI0 fun i j => .bl (decide (j ≤ i))) (tVar 5) (tCKw (rMaxDefT K) (tCons (tVar 4) tNil) (tCons (tC (.int 0)) tNil))))
          (te := tOp (rCatF K) (tVar 4) (tTupF (tCons (tVar 5) tNil))) (by rfl) sc_list_plans.nd rfl rfl (by rfl) (pi_list (pv 2))
          (blkOk_by (N := N_list_plans) (sc := defScope s_list_plans) (by decide +kernel)) (by intro i hi; simp at hi; simp [hi]) (fun _ _ _ _ _ => pg_name (i := 4) sc_list_plans.nd rfl (.inl rfl)) (fun _ _ _ _ _ => pts_nil)
          (fun _ _ _ _ _ => pi_range1 rfl B.range (pa_cons (pv 0) pa_nil)) (fun _ _ _ _ _ => pg_name (i := 5) sc_list_plans.nd rfl (.inl rfl))
          (fun _ _ _ _ _ => pts_one (pt_cmpR op_ge (pv 5) (pe_callBK (cr_maxDefT rfl hu) (by rfl) zm PyProof.Rows.boot_max (pa_cons (pv 4) pa_nil) (pk_cons pe_int pk_nil)) (nomark _)))
          (fun _ _ _ _ _ => pe_op op_catF (pv 4) (pe_tupF (pa_cons (pv 5) pa_nil))))))
      (pss_one (ps_ret (pv 2)))), ?_⟩
    refine ⟨(by show 0 ≤ sizeLine; decide), fun u0 o0 nu0 to0 => ⟨(by show 1 ≤ sizeLine; decide), fun r0 nr0 => ?_⟩⟩
    have s0 := same_upd (o := HO.frz o0 (.tup [])) nu0
    have s1 := same_upd (o := HO.lst [.ref u0]) nr0
    have hP0 : Paired (PlanAt (upd (upd H u0 (.frz o0 (.tup []))) r0 (.lst [.ref u0]))) [.ref u0] (plansN many 0) := .cons ⟨u0, rfl, o0, to0, s1 _ _ upd_same⟩ .nil
    have hr0 : (upd (upd H u0 (.frz o0 (.tup []))) r0 (.lst [.ref u0])) r0 = some (.lst [.ref u0]) := upd_same
    have sA := s0.trans s1
    generalize (upd (upd H u0 (.frz o0 (.tup []))) r0 (.lst [.ref u0])) = H1 at hP0 hr0 sA
    refine ⟨_, rfl, (size : Nat), rfl, by omega, by omega, ?_⟩
    refine for_range (lo := 0) (n := ((size : Nat) : Int).toNat) (fun i σ H' => ∃ (r : Addr) (y3 : Option V) (vs' : List V), σ = [some (.int many), some (.int size), some (.ref r), y3, none, none] ∧ Same H H' ∧ H' r = some (.lst vs') ∧ Paired (PlanAt H') vs' (plansN many i))
      ⟨r0, _, _, rfl, sA, hr0, hP0⟩ ?_ ?_
    · rintro i σ H2 hi ⟨r, y3, vs', rfl, s2, hr2, hP⟩
      have vl := hP.length
      have pl := plansN_len (many := many) i
      refine ⟨_, rfl, r, rfl, ⟨_, SqL.of hr2⟩, fun D nD => ?_⟩
      have nrD : r ≠ D := ne_of_none hr2 nD
      have big : ∀ j, j ≤ 3 → many ^ j ≤ 8000 := fun j hj => by
        have h1 : many ^ j ≤ 20 ^ j := Nat.pow_le_pow_left hm j
        have h2 : 20 ^ j ≤ 20 ^ 3 := Nat.pow_le_pow_right (by decide) hj
        omega
      refine lc2_lst (K := K) (a := r) (xs := vs') (fun k H' => ∃ acc, Same H2 H' ∧ H' D = some (.lst acc) ∧ Paired (PlanAt H') acc (((plansN many i).take k).flatMap (longer many)))
        ⟨[], same_upd nD, upd_same, .nil⟩ (fun k H' ⟨_, s', _⟩ => SqL.of (s' _ _ hr2)) ?_ ?_
      · rintro k x H3 hk ⟨acc, s3, hD, hA⟩
        have lt : k < (plansN many i).length := by rw [← vl]; exact (List.getElem?_eq_some_iff.mp hk).1
        have ek := List.getElem?_eq_getElem lt
        obtain ⟨v', hv', u, ev, hu2⟩ := Paired.get? (i := k) hP ek
        obtain rfl : v' = x := Option.some.inj (hv'.symm.trans hk)
        subst ev
        have hmem := List.mem_of_getElem? ek
        generalize (plansN many i)[k] = l at ek hu2 hmem
        have ll := (plansN_mem (many := many) i l hmem).1
        refine ⟨rfl, _, rfl, (many : Nat), rfl, by omega, by omega, ?_⟩
        refine in_rng (lo := 0) (n := ((many : Nat) : Int).toNat) (fun j H' => ∃ acc, Same H2 H' ∧ H' D = some (.lst acc) ∧ Paired (PlanAt H') acc (((plansN many i).take k).flatMap (longer many) ++ ((List.range j).filter fun n => decide (maxN l ≤ n)).map fun n => l ++ [n]))
          ⟨acc, s3, hD, by rw [List.range_zero, List.filter_nil, List.map_nil, List.append_nil]; exact hA⟩ ?_ ?_
        · rintro j H4 hj ⟨acc2, s4, hD4, hA4⟩
          have hu4 : FzT H4 u (nints l) := hu2.keep (fk_of s4)
          have hun : SqT K H4 u ((l.map fun (n : Nat) => (n : Int)).map V.int) := by
            have := hu4.sq (K := K)
            rw [nints_V] at this
            exact this
          rw [show (0 : Int) + (j : Int) = (j : Nat) from Int.zero_add _]
          have lim := big i (by omega)
          have l3 := big (i + 1) (by omega)
          refine ⟨rfl, _, rfl, _, rfl, ?_⟩
          dsimp only [tNil, tCons, tC]
          refine maxDef_N hun ?_
          refine ⟨_, _, rfl, rfl, _, rfl, ite2 (fun c => ?_) (fun c => ?_)⟩
          · have c2 : maxN l ≤ j := by
              have := of_decide_eq_true c
              omega
            refine ⟨_, rfl, _, rfl, (by show 1 ≤ sizeLine; decide), fun u1 o1 nu1 to1 => ?_⟩
            have sa := same_upd (o := HO.frz o1 (.tup [.int j])) nu1
            have hF1 : FzT (upd H4 u1 (.frz o1 (.tup [.int j]))) u1 [.int j] := ⟨o1, to1, upd_same⟩
            have hD5 := sa _ _ hD4
            have hu5 := hu4.keep (fk_of sa)
            have s5 := s4.trans sa
            have hA5 := PlansAt.keep (fk_of sa) hA4
            generalize (upd H4 u1 (.frz o1 (.tup [.int j]))) = H5 at hF1 hD5 hu5 s5 hA5
            have fin : ∀ (H6 : Hp) (w6 : Addr), Same H5 H6 → FzT H6 w6 (nints (l ++ [j])) → ∃ acc, H6 D = some (.lst acc) ∧ acc.length < sizeLine ∧ ∃ acc', Same H2 (upd H6 D (.lst (acc ++ [.ref w6]))) ∧ (upd H6 D (.lst (acc ++ [.ref w6]))) D = some (.lst acc') ∧
                Paired (PlanAt (upd H6 D (.lst (acc ++ [.ref w6])))) acc' (((plansN many i).take k).flatMap (longer many) ++ ((List.range (j + 1)).filter fun n => decide (maxN l ≤ n)).map fun n => l ++ [n]) := fun H6 w6 s6 f6 => by
              have hD6 := s6 _ _ hD5
              have kD := FK.lst (o := HO.lst (acc2 ++ [.ref w6])) hD6
              refine ⟨acc2, hD6, ?_, _, fun b o e => ?_, upd_same, ?_⟩
              · rw [hA4.length, List.length_append, List.length_map, sizeLine_eq]
                have a1 : (((plansN many i).take k).flatMap (longer many)).length ≤ ((plansN many i).take k).length * many := flat_le _
                have a2 : ((plansN many i).take k).length ≤ (plansN many i).length := by rw [List.length_take]; exact Nat.min_le_right _ _
                have a3 : ((plansN many i).take k).length * many ≤ 8000 * 20 := Nat.mul_le_mul (by omega) hm
                have a4 := List.length_filter_le (fun n => decide (maxN l ≤ n)) (List.range j)
                rw [List.length_range] at a4
                omega
              · rw [upd_ne (ne_of_none e nD)]
                exact s6 _ _ (s5 _ _ e)
              · rw [filter_range_succ', if_pos (decide_eq_true c2), List.map_append, ← List.append_assoc]
                exact Paired.snoc (PlansAt.keep kD (PlansAt.keep (fk_of s6) hA5)) ⟨w6, rfl, f6.keep kD⟩
            refine ⟨u, u1, nints l, [.int j], rfl, rfl, hu5.sq, hF1.sq, (fun z => by cases z), ?_, fun e => ?_, fun ne p6 o6 np6 to6 => ?_⟩
            · rw [nints_len, ll, sizeLine_eq]
              show i + 1 ≤ _
              omega
            · have el : l = [] := List.map_eq_nil_iff.mp e
              have := fin H5 u1 (.refl H5) (by rw [el]; exact hF1)
              exact this
            · exact fin _ p6 (same_upd np6) ⟨o6, to6, by rw [nints_app]; exact upd_same⟩
          · have c2 : ¬ maxN l ≤ j := fun z => c (decide_eq_true (by omega))
            refine ⟨acc2, s4, hD4, ?_⟩
            rw [filter_range_succ', if_neg (by rw [decide_eq_false c2]; exact Bool.false_ne_true), List.append_nil]
            exact hA4
        · rintro H4 ⟨acc2, s4, hD4, hA4⟩
          refine ⟨acc2, s4, hD4, ?_⟩
          rw [List.take_add_one, ek, Option.toList_some, List.flatMap_append, List.flatMap_cons, List.flatMap_nil, List.append_nil]
          exact hA4
      · rintro H3 ⟨acc, s3, hD, hA⟩
        rw [vl, List.take_length] at hA
        exact ⟨D, _, acc, rfl, s2.trans s3, hD, hA⟩
    · rintro σ H2 ⟨r, y3, vs', rfl, s2, hr2, hP⟩
      exact ⟨_, rfl, q H2 r vs' s2 hr2 hP⟩
end
abbrev s_may_prolong : Stmt := top 45
abbrev N_may_prolong : List Str := ["net", "plan", "index"]
abbrev P_may_prolong : List Str := ["net", "plan"]
theorem sc_may_prolong : FnScope N_may_prolong P_may_prolong (defScope s_may_prolong) := ⟨rfl, rfl, rfl, by decide +kernel, rfl, by decide +kernel, by decide +kernel⟩
abbrev s_prolonged : Stmt := top 46
abbrev N_prolonged : List Str := ["net", "plan", "orders", "index", "source", "target", "first", "days", "delay"]
abbrev P_prolonged : List Str := ["net", "plan"]
theorem sc_prolonged : FnScope N_prolonged P_prolonged (defScope s_prolonged) := ⟨rfl, rfl, rfl, by decide +kernel, rfl, by decide +kernel, by decide +kernel⟩
abbrev s_plan_days : Stmt := top 41
abbrev N_plan_days : List Str := ["net", "limit", "size", "plan"]
abbrev P_plan_days : List Str := ["net", "limit"]
theorem sc_plan_days : FnScope N_plan_days P_plan_days (defScope s_plan_days) := ⟨rfl, rfl, rfl, by decide +kernel, rfl, by decide +kernel, by decide +kernel⟩
/-! ### may_prolong, prolonged, plan_days -/
def okB (p : Nat) (os : List Od) (l : List Nat) (k : Nat) : Bool := match os[k]? with
  | some o => decide (o.n + l.count k ≤ p)
  | none => false
theorem mayB_all {p : Nat} {os : List Od} {l : List Nat} : ((l.map (okB p os l)).all id) = mayB p os l := by
  rw [List.all_map]
  rfl
section
variable {P : Program} {w : World} {K : PySem.W.Frag} {mg : Str → Option Value} {base : Heap}
theorem ok_may {f C : Addr} {fd : FuncData} (F : Fun K "may_prolong" "may_prolong" s_may_prolong f fd) (B : Blt mg) (T : NetT K C) : FnOk P w K mg base CX0 1 f fd P_may_prolong (spMay C) := by
  refine F.ok sc_may_prolong (fun vs H Q E h => ?_) (fun cdv A outer s H vs Q E hr h => ?_)
  · obtain ⟨x, t, v, p, h, os, l, F, rfl, _⟩ := h
    rfl
  · obtain ⟨x, t, v, p, h, os, l, F, rfl, ⟨u, rfl, hu0⟩, hl, hk, Nt, nok, q⟩ := h
    have hu : (A.deeper (PyProof.Rows.envOfC "may_prolong" (defScope s_may_prolong) s.heap.objs.size f cdv)).units + 65 < cLine := by
      have := hr.un
      omega
    refine ⟨_, pss_one (ps_ret (pe_callB (cr_all rfl) (by rfl) B.all PyProof.Rows.boot_all (pa_cons (pe_lc (own := [("index", 2)]) (g := gName 2) (tt := tYes)
        (te := tOp (rI0 fun i j => .bl (decide (i ≤ j))) (tOp (rI0 fun i j => .int (i + j)) (tOp (rIxT K) (tOp (rIxT K) (tFld K (tVar 0) "orders") (tVar 2)) (tC (.int 3))) (tBMF (rCntT K) (tVar 1) (tCons (tVar 2) tNil))) (tFld K (tVar 0) "period")) (by rfl) sc_may_prolong.nd (pi_tup (pv 1))
        (blkOk_by (N := N_may_prolong) (sc := defScope s_may_prolong) (by decide +kernel)) (fun _ _ _ _ _ => pg_name (i := 2) sc_may_prolong.nd rfl (.inl rfl)) (fun _ _ _ _ _ => pts_nil)
        (fun _ _ _ _ _ => pe_cmpR op_le (pe_op op_add (pe_ix ix_tup (pe_ix ix_tup (pe_fld (pv 0) rfl) (pv 2) (fun _ _ => rfl)) pe_int (fun _ _ => rfl)) (pe_bmF PySem.F.plainAttrs_tuple PySem.F.slot_tuple_count PySem.F.type_tuple_count (mt_countT hu) (pv 1) (pa_cons (pv 2) pa_nil))) (pe_fld (pv 0) rfl) (nomark _))) pa_nil))), ?_⟩
    obtain ⟨dx, fl, as, _, hx, ⟨ts, ht, hP⟩, _⟩ := id Nt
    have hPl := hP.length
    refine ⟨_, rfl, u, rfl, ⟨_, hu0.sq⟩, fun D nD => ?_⟩
    refine lc_tup (K := K) (a := u) (xs := nints l) (fun i H' => Same H H' ∧ H' D = some (.lst (((l.take i).map (okB p os l)).map V.bl))) ⟨same_upd nD, upd_same⟩ (fun i H' _ ⟨s', _⟩ => (hu0.keep (fk_of s')).sq) ?_ ?_
    · rintro i v H1 hi ⟨s1, hD⟩
      obtain ⟨k, ek, rfl⟩ := nints_get hi
      have lk := hk k (List.mem_of_getElem? ek)
      have eo := List.getElem?_eq_getElem lk
      obtain ⟨w', hw, u2, rfl, hu2⟩ := Paired.get? (i := k) hP eo
      have hx1 := s1 _ _ hx
      have hu1 := hu0.keep (fk_of s1)
      refine ⟨rfl, _, rfl, x, C, dx, _, _, rfl, hx1, T.cl, T.nO, nf_or, _, rfl, t, ts, k, _, rfl, rfl, SqT.of (s1 _ _ ht), atI_nat (j := k) hw, u2, _, 3, _, rfl, rfl, SqT.of (s1 _ _ hu2), atI_nat (j := 3) rfl, ?_⟩
      refine ⟨_, rfl, ⟨u, _, rfl, hu1⟩, _, rfl, u, nints l, .int k, .int k, _, rfl, rfl, hu1.sq, nints_dps l, .int _, ints_plain l, rfl, by show 0 ≤ 60; decide, ?_⟩
      rw [cnt_ints]
      refine ⟨_, _, rfl, rfl, _, rfl, x, C, dx, _, _, rfl, hx1, T.cl, T.nP, nf_pe, _, _, rfl, rfl, _, hD, ?_, same_updN s1 nD, ?_⟩
      · rw [List.length_map, List.length_map, List.length_take]
        exact small1000 (by have := (List.getElem?_eq_some_iff.mp ek).1; omega)
      · rw [upd_same, List.take_add_one, ek, List.map_append, List.map_append]
        have e : okB p os l k = decide (((os[k].n : Int) + ((l.count k : Nat) : Int)) ≤ (p : Int)) := by
          unfold okB
          rw [eo]
          show decide (os[k].n + l.count k ≤ p) = _
          by_cases c : os[k].n + l.count k ≤ p
          · rw [decide_eq_true c, decide_eq_true (by omega)]
          · rw [decide_eq_false c, decide_eq_false (by omega)]
        show some (HO.lst (_ ++ [V.bl (decide (((os[k].n : Int) + ((l.count k : Nat) : Int)) ≤ (p : Int)))])) = some (HO.lst (_ ++ [V.bl (okB p os l k)]))
        rw [e]
    · rintro H1 ⟨s1, hD⟩
      rw [nints_len, List.take_length] at hD
      refine ⟨D, _, rfl, SqL.of hD, ?_⟩
      rw [mayB_all]
      exact q H1 s1
theorem ok_prolonged {f C fI : Addr} {fd fdI : FuncData} (F : Fun K "prolonged" "prolonged" s_prolonged f fd) (B : Blt mg) (T : NetT K C) (M : Mk K C fI) (gC : mg "Net" = some (.ref C)) (GI : FnOk P w K mg base CX0 5 fI fdI P_Net_init (spInit C)) (bI : Binds K fdI P_Net_init []) : FnOk P w K mg base CX0 7 f fd P_prolonged (spProlonged C) := by
  refine F.ok sc_prolonged (fun vs H Q E h => ?_) (fun cdv A outer s H vs Q E hr h => ?_)
  · obtain ⟨x, t, v, p, h, os, l, F, rfl, _⟩ := h
    rfl
  · obtain ⟨x, t, v, p, h, os, l, F, rfl, ⟨u, rfl, hu0⟩, Nt, nok, nok', q⟩ := h
    have hu : (A.deeper (PyProof.Rows.envOfC "prolonged" (defScope s_prolonged) s.heap.objs.size f cdv)).units + 65 < cLine := by
      have := hr.un
      omega
    refine ⟨_, pss_cons (ps_set (i := 2) sc_prolonged.nd rfl (.inl rfl) (pe_lst pa_nil))
      (pss_cons (ps_for PassesOwn.never rfl (pi_enumT (by rfl) B.enum (pa_cons (pe_fld (pv 0) rfl) pa_nil)) (pg_tup (by rfl) (pgs_cons (pg_name (i := 3) sc_prolonged.nd rfl (.inl rfl)) (pgs_cons (pg_tup (by rfl) (pgs_cons (pg_name (i := 4) sc_prolonged.nd rfl (.inl rfl)) (pgs_cons (pg_name (i := 5) sc_prolonged.nd rfl (.inl rfl)) (pgs_cons (pg_name (i := 6) sc_prolonged.nd rfl (.inl rfl)) (pgs_cons (pg_name (i := 7) sc_prolonged.nd rfl (.inl rfl)) (pgs_cons (pg_name (i := 8) sc_prolonged.nd rfl (.inl rfl)) pgs_nil)))))) pgs_nil)))
        (pss_one (ps_expr (pe_bm PySem.F.plainAttrs_list PySem.F.slot_list_append PySem.F.type_list_append mt_append (pv 2) (pa_cons (pe_tup (pa_cons (pv 4) (pa_cons (pv 5) (pa_cons (pv 6) (pa_cons (pe_op op_add (pv 7) (pe_bmF PySem.F.plainAttrs_tuple PySem.F.slot_tuple_count PySem.F.type_tuple_count (mt_countT hu) (pv 1) (pa_cons (pv 3) pa_nil))) (pa_cons (pv 8) pa_nil)))))) pa_nil)))))
      (pss_one (ps_ret (pe_make M GI hr (by rfl) gC bI .nil pass0 (pa_cons (pe_fld (pv 0) rfl) (pa_cons (pe_fld (pv 0) rfl) (pa_cons (pe_callTy call_tuple_of (by rfl) B.tuple (by decide +kernel) (pa_cons (pv 2) pa_nil)) pa_nil))))))), ?_⟩
    obtain ⟨dx, fl, as, _, hx, ⟨ts, ht, hP⟩, _⟩ := id Nt
    have hPl := hP.length
    have ol := nok.len
    refine ⟨(by show 0 ≤ sizeLine; decide), fun L nL => ?_⟩
    have sL := same_upd (o := HO.lst []) nL
    refine ⟨_, rfl, x, C, dx, _, _, rfl, sL _ _ hx, T.cl, T.nO, nf_or, t, ts, rfl, sL _ _ ht, ?_⟩
    refine for_enumT (K := K) (a := t) (xs := ts) (fun i σ H' => (∃ y3 y4 y5 y6 y7 y8, σ = [some (.ref x), some (.ref u), some (.ref L), y3, y4, y5, y6, y7, y8]) ∧ Same H H' ∧ ∃ us, H' L = some (.lst us) ∧ Paired (OrdAt H') us (prol l (os.take i)))
      ⟨⟨_, _, _, _, _, _, rfl⟩, sL, [], upd_same, by rw [List.take_zero]; exact .nil⟩ (fun i σ H' ⟨_, s', _⟩ => s' _ _ ht) ?_ ?_
    · rintro i w' σ H1 T0 hi ⟨⟨y3, y4, y5, y6, y7, y8, rfl⟩, s1, us, hL, hU⟩ nT0
      have lt : i < os.length := by rw [← hPl]; exact (List.getElem?_eq_some_iff.mp hi).1
      have eo := List.getElem?_eq_getElem lt
      obtain ⟨w2, hw, u2, e2, hu2⟩ := Paired.get? (i := i) hP eo
      obtain rfl : w2 = w' := Option.some.inj (hw.symm.trans hi)
      subst e2
      generalize os[i] = o at eo hu2
      have s2 := same_upd (o := HO.tup [.int (i : Nat), .ref u2]) nT0
      have hT0 : (upd H1 T0 (.tup [.int (i : Nat), .ref u2])) T0 = some (.tup [.int (i : Nat), .ref u2]) := upd_same
      have hL2 := s2 _ _ hL
      have s12 := s1.trans s2
      have hU2 := OrdsAt.keep (tk_of s2) hU
      generalize (upd H1 T0 (.tup [.int (i : Nat), .ref u2])) = H2 at hT0 hL2 s12 hU2
      have hu3 := hu0.keep (fk_of s12)
      refine ⟨T0, _, rfl, SqT.of hT0, rfl, _, _, rfl, _, _, rfl, ?_⟩
      refine ⟨u2, _, rfl, SqT.of (s12 _ _ hu2), rfl, _, _, rfl, _, _, rfl, _, _, rfl, _, _, rfl, _, _, rfl, rfl, rfl, ?_⟩
      refine ⟨_, rfl, .inl ⟨rfl, _, SqL.of hL2⟩, _, rfl, _, rfl, _, rfl, _, rfl, _, rfl, ⟨u, _, rfl, hu3⟩, _, rfl, u, nints l, .int i, .int i, _, rfl, rfl, hu3.sq, nints_dps l, .int _, ints_plain l, rfl, by show 0 ≤ 60; decide, ?_⟩
      rw [cnt_ints]
      refine ⟨_, _, rfl, rfl, _, rfl, (by show 5 ≤ sizeLine; decide), fun o1 no1 => ?_⟩
      have s3 := same_upd (o := HO.tup [.int o.s, .int o.t, .int o.f, .int ((o.n : Int) + ((l.count i : Nat) : Int)), .int o.e]) no1
      have hL3 := s3 _ _ hL2
      have n1L : o1 ≠ L := (ne_of_none hL2 no1).symm
      have kL := TupKeep.lst (o := HO.lst (us ++ [.ref o1])) hL3
      refine ⟨L, us, _, rfl, rfl, hL3, ?_, ⟨_, _, _, _, _, _, rfl⟩, fun b z e => ?_, _, upd_same, ?_⟩
      · rw [hU.length, prol_len, List.length_take]
        exact small1000 (by omega)
      · rw [upd_ne (ne_of_none e nL)]
        exact s3 _ _ (s12 _ _ e)
      · rw [prol_take eo]
        refine Paired.snoc (OrdsAt.keep kL (OrdsAt.keep (tk_of s3) hU2)) ⟨o1, rfl, kL _ _ ?_⟩
        rw [upd_same]
        show some (HO.tup [V.int o.s, V.int o.t, V.int o.f, V.int ((o.n : Int) + ((l.count i : Nat) : Int)), V.int o.e]) = some (HO.tup [V.int o.s, V.int o.t, V.int o.f, V.int ((o.n + l.count i : Nat) : Int), V.int o.e])
        rw [Int.natCast_add]
    · rintro σ H1 ⟨⟨y3, y4, y5, y6, y7, y8, rfl⟩, s1, us, hL, hU⟩
      rw [hPl, List.take_length] at hU
      have hx1 := s1 _ _ hx
      refine ⟨_, rfl, x, C, dx, _, _, rfl, hx1, T.cl, T.nP, nf_pe, _, rfl, x, C, dx, _, _, rfl, hx1, T.cl, T.nH, nf_ho, _, rfl, L, us, rfl, .inl ⟨SqL.of hL, fun tt ntt => ?_⟩⟩
      have s3 := same_upd (o := HO.tup us) ntt
      have hO : OrdsTup (upd H1 tt (.tup us)) tt (prol l os) := ⟨us, upd_same, OrdsAt.keep (tk_of s3) hU⟩
      have sB := s1.trans s3
      generalize (upd H1 tt (.tup us)) = H3 at sB hO
      intro x' dx' nx ndx nex
      have s0 : Same H3 (upd (upd H3 dx' (.own x')) x' (.ins C dx' [])) := same_updN (same_upd ndx) nx
      exact ⟨x', dx', tt, p, h, prol l os, H3, rfl, nok', hO.keep (tk_of s0), s0, nx, upd_same, fun H' F' s9 nF N => ⟨rfl, q H' x' tt F' (sB.trans s9) N⟩⟩
def goodB (p h : Nat) (os : List Od) (l : List Nat) : Bool := mayB p os l && decide (chN p h (prol l os) = 0)
/-- all plans of at most so many days, the shortest first -/
def plansTo (many lim : Nat) : List (List Nat) := (List.range (lim + 1)).flatMap (plansN many)
def planOf (p h : Nat) (os : List Od) (lim : Nat) : Option (List Nat) := (plansTo os.length lim).find? (goodB p h os)
def spPlanDays (C : Addr) : Sp := fun vs H Q _ => ∃ (x t : Addr) (p h lim : Nat) (os : List Od) (F : List Addr), vs = [.ref x, .int lim] ∧ NetAt C H x p h os t F ∧ NetOk p h os ∧ lim ≤ 3 ∧
  ∀ H' v, Same H H' → OptPlan H' v (planOf p h os lim) → Q v H'
theorem find_none_app {α : Type} {f : α → Bool} {l r : List α} (h : ∀ a ∈ l, f a = false) : (l ++ r).find? f = r.find? f := by
  rw [List.find?_append, List.find?_eq_none.mpr (fun a ha => by rw [h a ha]; exact Bool.false_ne_true)]
  rfl
theorem plansTo_at {many lim sz k : Nat} {l : List Nat} {f : List Nat → Bool} (hs : sz ≤ lim) (hk : (plansN many sz)[k]? = some l) (h1 : ∀ a ∈ (List.range sz).flatMap (plansN many), f a = false) (h2 : ∀ a ∈ (plansN many sz).take k, f a = false) (h3 : f l = true) : (plansTo many lim).find? f = some l := by
  unfold plansTo
  obtain ⟨m, rfl⟩ : ∃ m, lim = sz + m := ⟨lim - sz, by omega⟩
  rw [show sz + m + 1 = sz + (m + 1) by omega, List.range_add, List.flatMap_append, find_none_app h1]
  rw [List.range_succ_eq_map, List.map_cons, List.flatMap_cons, Nat.add_zero]
  have lt := (List.getElem?_eq_some_iff.mp hk).1
  have e : plansN many sz = (plansN many sz).take k ++ l :: (plansN many sz).drop (k + 1) := by
    have e1 := List.take_append_drop k (plansN many sz)
    rw [List.drop_eq_getElem_cons lt] at e1
    rw [(List.getElem?_eq_some_iff.mp hk).2] at e1
    exact e1.symm
  rw [e, List.append_assoc, find_none_app h2, List.cons_append, List.find?_cons, h3]
theorem ok_plan_days {f C : Addr} {fd : FuncData} (F : Fun K "plan_days" "plan_days" s_plan_days f fd) (B : Blt mg) (T : NetT K C) (hL : ∃ t, mg "HIGHEST_LIMIT" = some (.int 3 t)) (DW : Df P w K mg base "is_within" 2 P_is_within (spWithin K)) (DP : Df P w K mg base "list_plans" 1 P_list_plans spPlans)
    (DM : Df P w K mg base "may_prolong" 1 P_may_prolong (spMay C)) (DC : Df P w K mg base "count_chasing" 5 P_count_chasing (spChasing C)) (DR : Df P w K mg base "prolonged" 7 P_prolonged (spProlonged C)) : FnOk P w K mg base CX0 8 f fd P_plan_days (spPlanDays C) := by
  obtain ⟨fW, fdW, gW, kW, bW, GW⟩ := DW
  obtain ⟨fP, fdP, gP, kP, bP, GP⟩ := DP
  obtain ⟨fM, fdM, gM, kM, bM, GM⟩ := DM
  obtain ⟨fC, fdC, gC, kC, bC, GC⟩ := DC
  obtain ⟨fR, fdR, gR, kR, bR, GR⟩ := DR
  obtain ⟨tk, hL⟩ := hL
  refine F.ok sc_plan_days (fun vs H Q E h => ?_) (fun cdv A outer s H vs Q E hr h => ?_)
  · obtain ⟨x, t, p, h, lim, os, F, rfl, _⟩ := h
    rfl
  · obtain ⟨x, t, p, h, lim, os, F, rfl, Nt, nok, hlim, q⟩ := h
    have hr1 : Room 1 _ := hr.mono (by decide)
    have hr2 : Room 2 _ := hr.mono (by decide)
    have hr5 : Room 5 _ := hr.mono (by decide)
    refine ⟨_, pss_cons (ps_if (pt_not (pt_val (pe_call GW hr2 (by rfl) gW kW bW .nil pass0 (pa_cons (pv 1) (pa_cons pe_int (pa_cons (pe_glob (v := .int 3) rfl hL ⟨_, rfl⟩) pa_nil)))))) (pss_one ps_never) pss_nil)
      (pss_cons (ps_for PassesOwn.never rfl (pi_range1 rfl B.range (pa_cons (pe_op op_add (pv 1) pe_int) pa_nil)) (pg_name (i := 2) sc_plan_days.nd rfl (.inl rfl))
        (pss_one (ps_for PassesOwn.never rfl (pi_list (pe_call GP hr1 (by rfl) gP kP bP .nil pass0 (pa_cons (pe_callB call_len_seq (by rfl) B.len PySem.boot_len (pa_cons (pe_fld (pv 0) rfl) pa_nil)) (pa_cons (pv 2) pa_nil)))) (pg_name (i := 3) sc_plan_days.nd rfl (.inl rfl))
          (pss_one (ps_if (PW.pt (pw_and (pt_val (pe_call GM hr1 (by rfl) gM kM bM .nil pass0 (pa_cons (pv 0) (pa_cons (pv 3) pa_nil))))
              (pw_and1 (pt_cmpR op_eq (pe_call GC hr5 (by rfl) gC kC bC .nil pass0 (pa_cons (pe_call GR hr (by rfl) gR kR bR .nil pass0 (pa_cons (pv 0) (pa_cons (pv 3) pa_nil))) pa_nil)) pe_int (nomark _)))))
            (pss_one (ps_ret (pv 3))) pss_nil)))))
      (pss_one (ps_ret pe_non))), ?_⟩
    obtain ⟨dx, fl, as, _, hx, ⟨ts, ht, hP⟩, _⟩ := id Nt
    have hPl := hP.length
    have ol := nok.len
    refine ⟨_, rfl, .int lim, 0, 3, rfl, .int, _, rfl, ?_⟩
    rw [show withinB (.int (lim : Nat)) 0 3 = true from within_nat (lo := 0) (hi := 3) (Nat.zero_le _) hlim]
    refine iteF ⟨_, rfl, _, _, rfl, rfl, ((lim + 1 : Nat) : Int), rfl, by omega, by omega, ?_⟩
    refine for_range (lo := 0) (n := ((lim + 1 : Nat) : Int).toNat) (fun i σ H' => (∃ y2 y3, σ = [some (.ref x), some (.int lim), y2, y3]) ∧ Same H H' ∧ ∀ l ∈ (List.range i).flatMap (plansN os.length), goodB p h os l = false)
      ⟨⟨_, _, rfl⟩, .refl H, fun l hl => by cases hl⟩ ?_ ?_
    · rintro sz σ H1 hsz ⟨⟨y2, y3, rfl⟩, s1, hno⟩
      have hsz2 : sz ≤ lim := by omega
      rw [show (0 : Int) + (sz : Int) = (sz : Nat) from Int.zero_add _]
      refine ⟨_, rfl, x, C, dx, _, _, rfl, s1 _ _ hx, T.cl, T.nO, nf_or, t, ts, rfl, .inr (SqT.of (s1 _ _ ht)), _, rfl, os.length, sz, by rw [hPl]; rfl, ol, by omega, fun H2 r vs' s2 hr2 hV => ?_⟩
      have s12 := s1.trans s2
      have vl := hV.length
      refine ⟨r, rfl, ⟨_, SqL.of hr2⟩, ?_⟩
      refine for_list (K := K) (a := r) (xs := vs') (fun i σ H' => (∃ y3, σ = [some (.ref x), some (.int lim), some (.int sz), y3]) ∧ Same H2 H' ∧ ∀ l ∈ (plansN os.length sz).take i, goodB p h os l = false)
        ⟨⟨_, rfl⟩, .refl H2, fun l hl => by rw [List.take_zero] at hl; cases hl⟩ (fun i σ H' _ ⟨_, s', _⟩ => SqL.of (s' _ _ hr2)) ?_ ?_
      · rintro k v σ H3 hk ⟨⟨y3', rfl⟩, s3, hno3⟩
        have lt : k < (plansN os.length sz).length := by rw [← vl]; exact (List.getElem?_eq_some_iff.mp hk).1
        have ek := List.getElem?_eq_getElem lt
        obtain ⟨v', hv', hpl⟩ := Paired.get? (i := k) hV ek
        obtain rfl : v' = v := Option.some.inj (hv'.symm.trans hk)
        have hmem := List.mem_of_getElem? ek
        generalize (plansN os.length sz)[k] = l at ek hpl hmem
        obtain ⟨ll, lm⟩ := plansN_mem sz l hmem
        have s13 := s12.trans s3
        have hpl3 := hpl.keep (fk_of s3)
        refine ⟨_, rfl, _, rfl, x, t, v', p, h, os, l, F, rfl, hpl3, by omega, lm, Nt.same s13, nok, fun H4 s4 => ⟨_, rfl, ite2 (fun m => ?_) (fun m => ?_)⟩⟩
        · have hpl4 := hpl3.keep (fk_of s4)
          refine ⟨_, rfl, _, rfl, x, t, v', p, h, os, l, F, rfl, hpl4, Nt.same (s13.trans s4), nok, prol_ok nok m, fun H5 x' t' F' s5 N5 => ?_⟩
          refine ⟨x', t', p, h, prol l os, F', rfl, N5, prol_ok nok m, fun H6 s6 => ⟨rfl, _, rfl, ite2 (fun c => ?_) (fun c => ?_)⟩⟩
          · refine ⟨_, rfl, q H6 v' (s13.trans (s4.trans (s5.trans s6))) ?_⟩
            have c2 : chN p h (prol l os) = 0 := by
              have := V.int.inj (of_decide_eq_true c)
              omega
            have g : goodB p h os l = true := by
              unfold goodB
              rw [m, decide_eq_true c2]
              rfl
            unfold planOf
            rw [plansTo_at hsz2 ek hno hno3 g]
            exact hpl4.keep (fk_of (s5.trans s6))
          · refine ⟨⟨_, rfl⟩, s3.trans (s4.trans (s5.trans s6)), fun l2 hl2 => ?_⟩
            rw [List.take_add_one, ek] at hl2
            rcases List.mem_append.mp hl2 with z | z
            · exact hno3 l2 z
            · rw [List.mem_singleton.mp z]
              unfold goodB
              rw [m, decide_eq_false (fun z2 => c (decide_eq_true (by rw [z2]; rfl)))]
              rfl
        · refine ⟨⟨_, rfl⟩, s3.trans s4, fun l2 hl2 => ?_⟩
          rw [List.take_add_one, ek] at hl2
          rcases List.mem_append.mp hl2 with z | z
          · exact hno3 l2 z
          · rw [List.mem_singleton.mp z]
            unfold goodB
            rw [Bool.eq_false_iff.mpr m]
            rfl
      · rintro σ H3 ⟨⟨y3', rfl⟩, s3, hno3⟩
        rw [vl, List.take_length] at hno3
        refine ⟨⟨_, _, rfl⟩, s12.trans s3, fun l hl => ?_⟩
        rw [List.range_succ, List.flatMap_append] at hl
        rcases List.mem_append.mp hl with z | z
        · exact hno l z
        · rw [List.flatMap_cons, List.flatMap_nil, List.append_nil] at z
          exact hno3 l z
    · rintro σ H1 ⟨⟨y2, y3, rfl⟩, s1, hno⟩
      refine q H1 .non s1 ?_
      have e : planOf p h os lim = none := by
        unfold planOf plansTo
        exact List.find?_eq_none.mpr fun l hl => by
          rw [hno l hl]
          exact Bool.false_ne_true
      rw [e]
      rfl
end
/-! ### how many letters chase, house by house -/
def chTo (p h : Nat) (os : List Od) (i : Nat) : Nat := (((List.range i).flatMap fun a => (List.range p).map fun d => (a, d)).filter fun s => (dst p h os s).isNone).length
theorem chTo_succ {p h i : Nat} {os : List Od} : chTo p h os (i + 1) = chTo p h os i + ((List.range p).map fun d => dst p h os (i, d)).countP (·.isNone) := by
  unfold chTo
  rw [lets_row, List.filter_append, List.length_append]
  congr 1
  rw [← List.countP_eq_length_filter, List.countP_map, List.countP_map]
  rfl
theorem chTo_le {p h i : Nat} {os : List Od} : chTo p h os i ≤ i * p := by
  unfold chTo
  refine Nat.le_trans (List.length_filter_le _ _) ?_
  have := rows_len (p := p) (i := i) (j := 0)
  rw [List.range_zero, List.map_nil, List.append_nil] at this
  omega
/-! ### a net without idle orders and idle days: plain mathematics -/
theorem hop_i0 {p : Nat} {os : List Od} {c : Nat × Nat} (e : idx p os c.1 (c.2 : Int) = none) : hop p os c = none := by
  unfold hop
  rw [e]
theorem hop_i1 {p k : Nat} {os : List Od} {c : Nat × Nat} (e : idx p os c.1 (c.2 : Int) = some k) : ∃ o, os[k]? = some o ∧ hop p os c = some (o.t, c.2 + o.e) := by
  have hk := idx_lt e
  refine ⟨os[k], List.getElem?_eq_getElem hk, ?_⟩
  unfold hop
  rw [e]
  show (os[k]?).map _ = _
  rw [List.getElem?_eq_getElem hk]
  rfl
section
variable {p h : Nat} {os : List Od}
/-- how many days after its first one the k-th order is followed -/
def offs (p : Nat) (os : List Od) (k : Nat) (o : Od) : List Nat := (List.range o.n).filter fun j => decide (idx p os o.s ((o.f + j : Nat) : Int) = some k)
theorem mem_offs {k j : Nat} {o : Od} : j ∈ offs p os k o ↔ j < o.n ∧ idx p os o.s ((o.f + j : Nat) : Int) = some k := by
  unfold offs
  rw [List.mem_filter, List.mem_range, decide_eq_true_iff]
theorem offs_pw {k : Nat} {o : Od} : (offs p os k o).Pairwise (· < ·) := List.pairwise_lt_range.filter _
/-- a list of numbers, in strict order, between its first and its last -/
theorem pw_ends {l : List Nat} (pw : l.Pairwise (· < ·)) : l = [] ∨ ∃ a b, l.head? = some a ∧ l.getLast? = some b ∧ a ∈ l ∧ b ∈ l ∧ ∀ j ∈ l, a ≤ j ∧ j ≤ b := by
  cases e : l with
  | nil => exact .inl rfl
  | cons a r =>
    obtain ⟨l', b, e2⟩ : ∃ l' b, l = l' ++ [b] := ⟨_, _, (List.dropLast_concat_getLast (l := l) (by rw [e]; exact List.cons_ne_nil _ _)).symm⟩
    have hb : (a :: r).getLast? = some b := by rw [← e, e2, List.getLast?_concat]
    refine .inr ⟨a, b, rfl, hb, List.mem_cons_self, ?_, fun j hj => ⟨?_, ?_⟩⟩
    · rw [← e, e2]
      exact List.mem_append_right _ List.mem_cons_self
    · rw [e] at pw
      rcases List.mem_cons.mp hj with z | z
      · omega
      · exact Nat.le_of_lt ((List.pairwise_cons.mp pw).1 j z)
    · rw [e2] at pw
      rw [← e, e2] at hj
      rcases List.mem_append.mp hj with z | z
      · exact Nat.le_of_lt ((List.pairwise_append.mp pw).2.2 j z b List.mem_cons_self)
      · rw [List.mem_singleton.mp z]
        exact Nat.le_refl _
def simpO (p : Nat) (os : List Od) (k : Nat) (o : Od) : Option Od := match (offs p os k o).head?, (offs p os k o).getLast? with
  | some a, some b => some ⟨o.s, o.t, (o.f + a) % p, b - a + 1, o.e⟩
  | _, _ => none
theorem simpO_cases (k : Nat) (o : Od) : (offs p os k o = [] ∧ simpO p os k o = none) ∨ ∃ a b, (offs p os k o).head? = some a ∧ (offs p os k o).getLast? = some b ∧ simpO p os k o = some ⟨o.s, o.t, (o.f + a) % p, b - a + 1, o.e⟩ ∧ a ∈ offs p os k o ∧ b ∈ offs p os k o ∧ ∀ j ∈ offs p os k o, a ≤ j ∧ j ≤ b := by
  rcases pw_ends (offs_pw (p := p) (os := os) (k := k) (o := o)) with e | ⟨a, b, e1, e2, h1, h2, h3⟩
  · refine .inl ⟨e, ?_⟩
    unfold simpO
    rw [e]
    rfl
  · refine .inr ⟨a, b, e1, e2, ?_, h1, h2, h3⟩
    unfold simpO
    rw [e1, e2]
/-- the days on which the shorter order is valid -/
theorem win {o : Od} {a b : Nat} (hp : 0 < p) (ab : a ≤ b) (hb : b < p) (d : Int) : onDay p ⟨o.s, o.t, (o.f + a) % p, b - a + 1, o.e⟩ d = true ↔ (a : Int) ≤ (d - o.f) % p ∧ (d - o.f) % p ≤ b := by
  unfold onDay
  rw [decide_eq_true_iff]
  show (d - (((o.f + a) % p : Nat) : Int)) % (p : Int) < ((b - a + 1 : Nat) : Int) ↔ _
  have hp' : (0 : Int) < p := by omega
  have e1 : (d - (((o.f + a) % p : Nat) : Int)) % (p : Int) = ((d - o.f) % p - a) % p := by
    rw [Int.emod_sub_emod, Int.natCast_emod, Int.sub_emod d, Int.emod_emod_of_dvd _ (Int.dvd_refl _), ← Int.sub_emod]
    congr 1
    omega
  rw [e1]
  have r0 := Int.emod_nonneg (d - o.f) (Int.ne_of_gt hp')
  have r1 := Int.emod_lt_of_pos (d - o.f) hp'
  generalize (d - (o.f : Int)) % p = r at r0 r1
  by_cases c : (a : Int) ≤ r
  · rw [Int.emod_eq_of_lt (by omega) (by omega)]
    omega
  · have e2 : (r - a) % (p : Int) = r - a + p := by
      rw [← Int.add_emod_right]
      exact Int.emod_eq_of_lt (by omega) (by omega)
    rw [e2]
    omega
theorem idx_cong {s : Nat} {d d' : Int} (e : d % (p : Int) = d' % p) : idx p os s d = idx p os s d' := by rw [← idx_mod p os s d, e, idx_mod]
/-- K1: the shorter order is valid on fewer days -/
theorem simp_sub {k : Nat} {o o' : Od} {s : Nat} {d : Int} (ok : OdOk p h o) (e : simpO p os k o = some o') (ht : hit p s d o' = true) : hit p s d o = true := by
  have hp : 0 < p := by have := ok.f; omega
  rcases simpO_cases (p := p) (os := os) k o with ⟨_, e2⟩ | ⟨a, b, _, _, e2, ha, hb, hj⟩
  · rw [e2] at e
    cases e
  · rw [e2] at e
    obtain rfl := Option.some.inj e
    have hb1 := (mem_offs.mp hb).1
    have okn := ok.n
    unfold hit at ht ⊢
    rw [Bool.and_eq_true] at ht ⊢
    refine ⟨ht.1, ?_⟩
    have := (win (o := o) hp (hj b hb).1 (by omega) d).mp ht.2
    unfold onDay
    rw [decide_eq_true_iff]
    omega
/-- K2: on a day on which the order is followed, the shorter one is valid -/
theorem simp_hit {k : Nat} {o : Od} {s : Nat} {d : Int} (ok : OdOk p h o) (ek : os[k]? = some o) (e : idx p os s d = some k) : ∃ o', simpO p os k o = some o' ∧ hit p s d o' = true ∧ o'.s = o.s ∧ o'.t = o.t ∧ o'.e = o.e := by
  have hp : 0 < p := by have := ok.f; omega
  have hp' : (0 : Int) < p := by omega
  have ht : hit p s d o = true := by
    obtain ⟨h1, h2, _⟩ := List.findIdx?_eq_some_iff_getElem.mp (show os.findIdx? (hit p s d) = some k from e)
    rw [List.getElem?_eq_getElem h1] at ek
    rw [← Option.some.inj ek]
    exact h2
  unfold hit at ht
  rw [Bool.and_eq_true] at ht
  have hs := of_decide_eq_true ht.1
  have hn : (d - (o.f : Int)) % (p : Int) < (o.n : Int) := of_decide_eq_true ht.2
  have r0 := Int.emod_nonneg (d - o.f) (Int.ne_of_gt hp')
  obtain ⟨j, hj⟩ : ∃ j : Nat, (d - (o.f : Int)) % (p : Int) = j := ⟨((d - (o.f : Int)) % (p : Int)).toNat, by omega⟩
  have mj : j ∈ offs p os k o := mem_offs.mpr ⟨by omega, by
    rw [← e, hs]
    refine idx_cong ?_
    rw [Int.natCast_add, ← hj, Int.add_emod, Int.emod_emod_of_dvd _ (Int.dvd_refl _), ← Int.add_emod]
    congr 1
    omega⟩
  rcases simpO_cases (p := p) (os := os) k o with ⟨e2, _⟩ | ⟨a, b, _, _, e2, ha, hb, hjj⟩
  · rw [e2] at mj
    cases mj
  · have hb1 := (mem_offs.mp hb).1
    have okn := ok.n
    refine ⟨_, e2, ?_, rfl, rfl, rfl⟩
    unfold hit
    rw [Bool.and_eq_true]
    have := hjj j mj
    exact ⟨ht.1, (win (o := o) hp (hjj b hb).1 (by omega) d).mpr (by omega)⟩
/-- the shorter order, by its number -/
def simpF (p : Nat) (os : List Od) (k : Nat) : Option Od := (os[k]?).bind (simpO p os k)
def simpN (p : Nat) (os : List Od) (n : Nat) : List Od := (List.range n).filterMap (simpF p os)
def simpL (p : Nat) (os : List Od) : List Od := simpN p os os.length
theorem simpN_succ {n : Nat} : simpN p os (n + 1) = simpN p os n ++ (simpF p os n).toList := by
  unfold simpN
  rw [List.range_succ, List.filterMap_append]
  cases e : simpF p os n <;> simp [e]
theorem simpF_some {k : Nat} {o' : Od} (e : simpF p os k = some o') : ∃ o, os[k]? = some o ∧ simpO p os k o = some o' := Option.bind_eq_some_iff.mp e
theorem hop_find {c : Nat × Nat} : hop p os c = (os.find? (hit p c.1 (c.2 : Int))).map fun o => (o.t, c.2 + o.e) := by
  unfold hop
  cases e : idx p os c.1 (c.2 : Int) with
  | none =>
    have : os.find? (hit p c.1 (c.2 : Int)) = none := by
      rw [List.find?_eq_none]
      exact fun x hx => by
        have := List.findIdx?_eq_none_iff.mp (show os.findIdx? _ = none from e) x hx
        rw [this]
        exact Bool.false_ne_true
    rw [this]
    rfl
  | some k =>
    show (os[k]?).map _ = _
    congr 1
    obtain ⟨h1, h2, h3⟩ := List.findIdx?_eq_some_iff_getElem.mp (show os.findIdx? (hit p c.1 (c.2 : Int)) = some k from e)
    rw [List.getElem?_eq_getElem h1]
    symm
    rw [List.find?_eq_some_iff_getElem]
    exact ⟨h2, k, h1, rfl, fun j hj => by
      have := h3 j hj
      simpa using this⟩
theorem hop_simp (ok : NetOk p h os) (c : Nat × Nat) : hop p (simpL p os) c = hop p os c := by
  rw [hop_find (os := simpL p os)]
  unfold simpL simpN
  rw [List.find?_filterMap]
  cases e : idx p os c.1 (c.2 : Int) with
  | none =>
    rw [hop_i0 e]
    have : (List.range os.length).find? (fun a => (simpF p os a).any (hit p c.1 (c.2 : Int))) = none := by
      rw [List.find?_range_eq_none]
      intro k hk
      cases ef : simpF p os k with
      | none => rfl
      | some o' =>
        obtain ⟨o, eo, es⟩ := simpF_some ef
        show (!hit p c.1 (c.2 : Int) o') = true
        rw [Bool.not_eq_true', Bool.eq_false_iff]
        intro z
        have := simp_sub (ok.ok o (List.mem_of_getElem? eo)) es z
        have h2 := List.findIdx?_eq_none_iff.mp (show os.findIdx? _ = none from e) o (List.mem_of_getElem? eo)
        rw [h2] at this
        cases this
    rw [this]
    rfl
  | some k =>
    obtain ⟨o, eo, eh⟩ := hop_i1 e
    rw [eh]
    obtain ⟨o', es, ht, _, et, ee⟩ := simp_hit (ok.ok o (List.mem_of_getElem? eo)) eo e
    have ef : simpF p os k = some o' := by
      unfold simpF
      rw [eo]
      exact es
    have : (List.range os.length).find? (fun a => (simpF p os a).any (hit p c.1 (c.2 : Int))) = some k := by
      rw [List.find?_range_eq_some]
      refine ⟨by rw [ef]; exact ht, List.mem_range.mpr (idx_lt e), fun j hj => ?_⟩
      cases ej : simpF p os j with
      | none => rfl
      | some o2 =>
        obtain ⟨o1, eo1, es1⟩ := simpF_some ej
        show (!hit p c.1 (c.2 : Int) o2) = true
        rw [Bool.not_eq_true', Bool.eq_false_iff]
        intro z
        have := simp_sub (ok.ok o1 (List.mem_of_getElem? eo1)) es1 z
        obtain ⟨h1, _, h3⟩ := List.findIdx?_eq_some_iff_getElem.mp (show os.findIdx? (hit p c.1 (c.2 : Int)) = some k from e)
        have h4 := h3 j hj
        rw [List.getElem?_eq_getElem (by omega)] at eo1
        rw [Option.some.inj eo1] at h4
        exact h4 this
    rw [this]
    show ((simpF p os k).map fun o => (o.t, c.2 + o.e)) = _
    rw [ef]
    show some (o'.t, c.2 + o'.e) = _
    rw [et, ee]
end
/-! ### the simplified net: more -/
theorem Paired.getL {α β : Type} {R : α → β → Prop} : ∀ {a : List α} {b : List β}, Paired R a b → ∀ {i : Nat} {x : α}, a[i]? = some x → ∃ y, b[i]? = some y ∧ R x y
  | _, _, .nil, i, x, h => by cases h
  | _, _, .cons r t, 0, x, h => ⟨_, rfl, by
    obtain rfl := Option.some.inj h
    exact r⟩
  | _, _, .cons r t, i + 1, x, h => Paired.getL t (i := i) (by rw [List.getElem?_cons_succ] at h; exact h)
section
variable {p h : Nat} {os : List Od}
theorem simpN_len : ∀ {n : Nat}, (simpN p os n).length ≤ n
  | 0 => Nat.le_refl _
  | n + 1 => by
    rw [simpN_succ, List.length_append]
    have := simpN_len (n := n)
    have : (simpF p os n).toList.length ≤ 1 := by cases simpF p os n <;> simp
    omega
theorem simpF_ok (ok : NetOk p h os) {k : Nat} {o' : Od} (e : simpF p os k = some o') : OdOk p h o' := by
  obtain ⟨o, eo, es⟩ := simpF_some e
  have k0 := ok.ok o (List.mem_of_getElem? eo)
  rcases simpO_cases (p := p) (os := os) k o with ⟨_, e2⟩ | ⟨a, b, _, _, e2, ha, hb, hj⟩
  · rw [e2] at es
    cases es
  · rw [e2] at es
    obtain rfl := Option.some.inj es
    have hb1 := (mem_offs.mp hb).1
    have kn := k0.n
    exact ⟨k0.s, k0.t, k0.st, Nat.mod_lt _ ok.p1, by show 1 ≤ b - a + 1; omega, by show b - a + 1 ≤ p; omega, k0.e1, k0.e⟩
theorem simp_ok (ok : NetOk p h os) : NetOk p h (simpL p os) := by
  refine { ok with len := Nat.le_trans simpN_len ok.len, ok := fun o' ho => ?_ }
  obtain ⟨k, _, e⟩ := List.mem_filterMap.mp ho
  exact simpF_ok ok e
theorem simpN_get {k : Nat} {o' : Od} (e : simpF p os k = some o') : ∀ {n : Nat}, k < n → (simpN p os n)[(simpN p os k).length]? = some o'
  | n + 1, hk => by
    rw [simpN_succ]
    by_cases c : k = n
    · subst c
      rw [List.getElem?_append_right (Nat.le_refl _), Nat.sub_self, e]
      rfl
    · have ih := simpN_get e (show k < n by omega)
      rw [List.getElem?_append_left (List.getElem?_eq_some_iff.mp ih).1]
      exact ih
theorem simpN_inv {i : Nat} {o' : Od} : ∀ {n : Nat}, (simpN p os n)[i]? = some o' → ∃ k, k < n ∧ simpF p os k = some o' ∧ (simpN p os k).length = i
  | 0, e => by cases e
  | n + 1, e => by
    rw [simpN_succ] at e
    by_cases c : i < (simpN p os n).length
    · rw [List.getElem?_append_left c] at e
      obtain ⟨k, h1, h2, h3⟩ := simpN_inv e
      exact ⟨k, by omega, h2, h3⟩
    · rw [List.getElem?_append_right (by omega)] at e
      cases ef : simpF p os n with
      | none =>
        rw [ef] at e
        cases e
      | some o2 =>
        rw [ef] at e
        have il := (List.getElem?_eq_some_iff.mp e).1
        have il : i - (simpN p os n).length < 1 := il
        rw [show i - (simpN p os n).length = 0 by omega] at e
        have e : some o2 = some o' := e
        exact ⟨n, by omega, ef.trans e, by omega⟩
theorem simpN_idx (ok : NetOk p h os) {s k : Nat} {d : Int} (e : idx p os s d = some k) : ∀ {n : Nat}, n ≤ os.length → (n ≤ k → (simpN p os n).findIdx? (hit p s d) = none) ∧ (k < n → (simpN p os n).findIdx? (hit p s d) = some (simpN p os k).length)
  | 0, _ => ⟨fun _ => rfl, fun z => by omega⟩
  | n + 1, hn => by
    obtain ⟨i1, i2⟩ := simpN_idx ok e (n := n) (by omega)
    rw [simpN_succ, List.findIdx?_append]
    constructor
    · intro z
      rw [i1 (by omega)]
      cases ef : simpF p os n with
      | none => rfl
      | some o' =>
        obtain ⟨o, eo, es⟩ := simpF_some ef
        have : hit p s d o' = false := by
          rw [Bool.eq_false_iff]
          intro y
          have y2 := simp_sub (ok.ok o (List.mem_of_getElem? eo)) es y
          obtain ⟨h1, _, h3⟩ := List.findIdx?_eq_some_iff_getElem.mp (show os.findIdx? (hit p s d) = some k from e)
          have h4 := h3 n (by omega)
          rw [List.getElem?_eq_getElem (by omega)] at eo
          rw [Option.some.inj eo] at h4
          exact h4 y2
        simp [this]
    · intro z
      by_cases c : k = n
      · subst c
        rw [i1 (Nat.le_refl _)]
        have eo := List.getElem?_eq_getElem (show k < os.length by omega)
        obtain ⟨o', es, ht, _⟩ := simp_hit (ok.ok _ (List.getElem_mem _)) eo e
        have ef : simpF p os k = some o' := by
          unfold simpF
          rw [eo]
          exact es
        rw [ef]
        simp [ht]
      · rw [i2 (by omega)]
        rfl
theorem idx_simp (ok : NetOk p h os) {s k : Nat} {d : Int} (e : idx p os s d = some k) : idx p (simpL p os) s d = some (simpN p os k).length := (simpN_idx ok e (Nat.le_refl _)).2 (idx_lt e)
/-- both ends of a shorter order are followed -/
theorem simp_ends (ok : NetOk p h os) {i : Nat} {o' : Od} (e : (simpL p os)[i]? = some o') : idx p (simpL p os) o'.s ((o'.f + 0 : Nat) : Int) = some i ∧ idx p (simpL p os) o'.s ((o'.f + (o'.n - 1) : Nat) : Int) = some i := by
  obtain ⟨k, hk, ef, rfl⟩ := simpN_inv e
  obtain ⟨o, eo, es⟩ := simpF_some ef
  rcases simpO_cases (p := p) (os := os) k o with ⟨_, e2⟩ | ⟨a, b, _, _, e2, ha, hb, hj⟩
  · rw [e2] at es
    cases es
  · rw [e2] at es
    obtain rfl := Option.some.inj es
    have h1 := idx_simp ok (mem_offs.mp ha).2
    have h2 := idx_simp ok (mem_offs.mp hb).2
    have ab := (hj b hb).1
    refine ⟨?_, ?_⟩
    · rw [← h1]
      refine idx_cong ?_
      show (((o.f + a) % p + 0 : Nat) : Int) % (p : Int) = ((o.f + a : Nat) : Int) % p
      rw [Nat.add_zero, ← Int.natCast_emod, ← Int.natCast_emod, Nat.mod_mod]
    · rw [← h2]
      refine idx_cong ?_
      show (((o.f + a) % p + (b - a + 1 - 1) : Nat) : Int) % (p : Int) = ((o.f + b : Nat) : Int) % p
      rw [← Int.natCast_emod, ← Int.natCast_emod, Nat.mod_add_mod, show o.f + a + (b - a + 1 - 1) = o.f + b by omega]
theorem simp_self (ok : NetOk p h os) {i : Nat} {o' : Od} (e : (simpL p os)[i]? = some o') : simpF p (simpL p os) i = some o' := by
  have k := (simp_ok ok).ok o' (List.mem_of_getElem? e)
  have kn := k.n1
  have kf := k.f
  obtain ⟨h1, h2⟩ := simp_ends ok e
  have m0 : 0 ∈ offs p (simpL p os) i o' := mem_offs.mpr ⟨by omega, h1⟩
  have m1 : o'.n - 1 ∈ offs p (simpL p os) i o' := mem_offs.mpr ⟨by omega, h2⟩
  unfold simpF
  rw [e]
  show simpO p (simpL p os) i o' = some o'
  rcases simpO_cases (p := p) (os := simpL p os) i o' with ⟨e2, _⟩ | ⟨a, b, _, _, e2, ha, hb, hj⟩
  · rw [e2] at m0
    cases m0
  · rw [e2]
    have b1 := (mem_offs.mp hb).1
    have h0 := (hj 0 m0).1
    have h3 := (hj _ m1).2
    obtain rfl : a = 0 := by omega
    obtain rfl : b = o'.n - 1 := by omega
    rw [Nat.add_zero, Nat.mod_eq_of_lt kf, show o'.n - 1 - 0 + 1 = o'.n by omega]
theorem simp_idem (ok : NetOk p h os) : simpL p (simpL p os) = simpL p os := by
  have : ∀ n, n ≤ (simpL p os).length → simpN p (simpL p os) n = (simpL p os).take n := by
    intro n
    induction n with
    | zero => exact fun _ => rfl
    | succ n ih =>
      intro hn
      have e := List.getElem?_eq_getElem (show n < (simpL p os).length by omega)
      rw [simpN_succ, ih (by omega), simp_self ok e, List.take_add_one, e]
  unfold simpL at *
  rw [this _ (Nat.le_refl _), List.take_of_length_le (Nat.le_refl _)]
theorem mem_used {k : Nat} : inV (.int (k : Nat)) (usedL p h os) = true ↔ ∃ a d, a < h ∧ d < p ∧ idx p os a (d : Nat) = some k := by
  unfold inV usedL
  rw [List.any_eq_true]
  constructor
  · rintro ⟨v, hv, e⟩
    obtain ⟨l, hl, hv⟩ := List.mem_flatten.mp hv
    obtain ⟨a, ha, rfl⟩ := List.mem_map.mp hl
    obtain ⟨d, hd, rfl⟩ := List.mem_map.mp hv
    refine ⟨a, d, List.mem_range.mp ha, List.mem_range.mp hd, ?_⟩
    unfold cellV at e
    cases ei : idx p os a (d : Int) with
    | none =>
      rw [ei] at e
      simp [optV, eqV] at e
    | some j =>
      rw [ei] at e
      simp [optV, eqV] at e
      rw [show j = k by omega]
  · rintro ⟨a, d, ha, hd, e⟩
    refine ⟨cellV p os a d, List.mem_flatten.mpr ⟨_, List.mem_map.mpr ⟨a, List.mem_range.mpr ha, rfl⟩, List.mem_map.mpr ⟨d, List.mem_range.mpr hd, rfl⟩⟩, ?_⟩
    unfold cellV
    rw [e]
    simp [optV, eqV]
/-- an order is followed on some day just when it has a shorter one -/
theorem used_iff (ok : NetOk p h os) {k : Nat} (hk : k < os.length) : inV (.int (k : Nat)) (usedL p h os) = (simpF p os k).isSome := by
  have eo := List.getElem?_eq_getElem hk
  have k0 := ok.ok _ (List.getElem_mem hk)
  generalize os[k] = o at eo k0
  rw [Bool.eq_iff_iff, mem_used]
  constructor
  · rintro ⟨a, d, _, _, e⟩
    obtain ⟨o', es, _⟩ := simp_hit k0 eo e
    unfold simpF
    rw [eo]
    show (simpO p os k o).isSome = true
    rw [es]
    rfl
  · intro z
    obtain ⟨o', e⟩ := Option.isSome_iff_exists.mp z
    obtain ⟨o2, eo2, es⟩ := simpF_some e
    obtain rfl := Option.some.inj (eo.symm.trans eo2)
    rcases simpO_cases (p := p) (os := os) k o with ⟨_, e2⟩ | ⟨a, b, _, _, e2, ha, hb, hj⟩
    · rw [e2] at es
      cases es
    · refine ⟨o.s, (o.f + a) % p, k0.s, Nat.mod_lt _ ok.p1, ?_⟩
      rw [idx_nat]
      exact (mem_offs.mp ha).2
theorem idle_simp (ok : NetOk p h os) : idleL p h (simpL p os) = [] := by
  unfold idleL
  rw [List.filter_eq_nil_iff]
  intro i hi
  have hi := List.mem_range.mp hi
  have e := List.getElem?_eq_getElem hi
  rw [used_iff (simp_ok ok) hi, simp_self ok e]
  simp
/-- the orders that are kept -/
def keptL (p h : Nat) (os : List Od) (n : Nat) : List Nat := (List.range n).filter fun k => inV (.int (k : Nat)) (usedL p h os)
theorem kept_simp (ok : NetOk p h os) : ∀ {n : Nat}, n ≤ os.length → Paired (fun k o' => k < os.length ∧ simpF p os k = some o') (keptL p h os n) (simpN p os n)
  | 0, _ => .nil
  | n + 1, hn => by
    have ih := kept_simp ok (n := n) (by omega)
    unfold keptL at *
    rw [filter_range_succ', simpN_succ, used_iff ok (show n < os.length by omega)]
    cases e : simpF p os n with
    | none =>
      rw [if_neg (by simp)]
      exact Paired.app ih .nil
    | some o' =>
      rw [if_pos (show (some o').isSome = true from rfl)]
      exact Paired.app ih (.cons ⟨by omega, e⟩ .nil)
theorem filt_len (f : Nat → Bool) : ∀ l : List Nat, (l.filter f).length + (l.filter fun x => !f x).length = l.length
  | [] => rfl
  | a :: l => by
    have ih := filt_len f l
    cases e : f a <;> simp [e] <;> omega
theorem idle_len (ok : NetOk p h os) : (simpL p os).length + (idleL p h os).length = os.length := by
  have h1 := (kept_simp ok (Nat.le_refl os.length)).length
  show (simpN p os os.length).length + _ = _
  rw [← h1]
  unfold keptL idleL
  have := filt_len (fun k => inV (.int (k : Nat)) (usedL p h os)) (List.range os.length)
  rw [List.length_range] at this
  exact this
theorem way_congr {os' : List Od} (e : ∀ c, hop p os c = hop p os' c) : ∀ (n : Nat) (st : Nat × Nat), way p os n st = way p os' n st
  | 0, _ => rfl
  | n + 1, st => by
    unfold way
    rw [e]
    cases hop p os' st with
    | none => rfl
    | some s => exact congrArg (List.cons st) (way_congr e n s)
theorem dst_congr {os' : List Od} (e : ∀ c, hop p os c = hop p os' c) (s : Nat × Nat) : dst p h os s = dst p h os' s := by
  unfold dst folR
  rw [way_congr e]
end
/-! ### houses with other numbers -/
/-- f gives each house its other number, g the old one back -/
structure Ren (h : Nat) (f g : Nat → Nat) : Prop where
  gf : ∀ a, g (f a) = a
  fg : ∀ b, f (g b) = b
  lt : ∀ a, f a < h ↔ a < h
theorem Ren.symm {h : Nat} {f g : Nat → Nat} (r : Ren h f g) : Ren h g f := ⟨r.fg, r.gf, fun b => by rw [← r.lt (g b), r.fg]⟩
theorem Ren.inj {h : Nat} {f g : Nat → Nat} (r : Ren h f g) {a b : Nat} : f a = f b ↔ a = b := ⟨fun e => by rw [← r.gf a, ← r.gf b, e], fun e => by rw [e]⟩
def mvO (f : Nat → Nat) (o : Od) : Od := { o with s := f o.s, t := f o.t }
def mvS (f : Nat → Nat) (s : Nat × Nat) : Nat × Nat := (f s.1, s.2)
def mvs (f : Nat → Nat) (os : List Od) : List Od := os.map (mvO f)
section
variable {p h : Nat} {os : List Od} {f g : Nat → Nat}
theorem mvs_len : (mvs f os).length = os.length := List.length_map ..
theorem mvs_get {k : Nat} : (mvs f os)[k]? = (os[k]?).map (mvO f) := List.getElem?_map ..
theorem mvs_back (r : Ren h f g) : mvs g (mvs f os) = os := by
  unfold mvs
  rw [List.map_map]
  have e : mvO g ∘ mvO f = id := by
    funext o
    obtain ⟨s, t, x, n, d⟩ := o
    show ({ s := g (f s), t := g (f t), f := x, n := n, e := d } : Od) = _
    rw [r.gf, r.gf]
    rfl
  rw [e, List.map_id]
theorem mvS_back (r : Ren h f g) (s : Nat × Nat) : mvS g (mvS f s) = s := by
  obtain ⟨a, d⟩ := s
  show (g (f a), d) = (a, d)
  rw [r.gf]
theorem mvS_inj (r : Ren h f g) {s t : Nat × Nat} : mvS f s = mvS f t ↔ s = t := ⟨fun e => by rw [← mvS_back r s, ← mvS_back r t, e], fun e => by rw [e]⟩
theorem mvs_ok (r : Ren h f g) (ok : NetOk p h os) : NetOk p h (mvs f os) := by
  refine { ok with len := by rw [mvs_len]; exact ok.len, ok := fun o ho => ?_ }
  obtain ⟨o1, h1, rfl⟩ := List.mem_map.mp ho
  have k := ok.ok o1 h1
  exact ⟨(r.lt _).mpr k.s, (r.lt _).mpr k.t, fun e => k.st (r.inj.mp e), k.f, k.n1, k.n, k.e1, k.e⟩
theorem idx_mv (r : Ren h f g) {a : Nat} {d : Int} : idx p (mvs f os) (f a) d = idx p os a d := by
  unfold idx mvs
  rw [List.findIdx?_map]
  congr 1
  funext o
  show (decide (f o.s = f a) && onDay p (mvO f o) d) = (decide (o.s = a) && onDay p o d)
  have e : decide (f o.s = f a) = decide (o.s = a) := by
    by_cases c : o.s = a
    · rw [decide_eq_true c, decide_eq_true (by rw [c])]
    · rw [decide_eq_false c, decide_eq_false fun e => c (r.inj.mp e)]
  rw [e]
  rfl
theorem hop_mv (r : Ren h f g) (s : Nat × Nat) : hop p (mvs f os) (mvS f s) = (hop p os s).map (mvS f) := by
  unfold hop
  show (match idx p (mvs f os) (f s.1) (s.2 : Int) with | none => none | some k => ((mvs f os)[k]?).map fun o : Od => (o.t, s.2 + o.e)) = _
  rw [idx_mv r]
  cases idx p os s.1 (s.2 : Int) with
  | none => rfl
  | some k =>
    show ((mvs f os)[k]?).map _ = ((os[k]?).map _).map _
    rw [mvs_get, Option.map_map, Option.map_map]
    rfl
theorem stp_mv (r : Ren h f g) (s : Nat × Nat) : ∀ j, stp p (mvs f os) j (mvS f s) = (stp p os j s).map (mvS f)
  | 0 => rfl
  | j + 1 => by
    show (stp p (mvs f os) j (mvS f s)).bind (hop p (mvs f os)) = ((stp p os j s).bind (hop p os)).map _
    rw [stp_mv r s j]
    cases stp p os j s with
    | none => rfl
    | some c => exact hop_mv r c
theorem way_mv (r : Ren h f g) : ∀ (n : Nat) (s : Nat × Nat), way p (mvs f os) n (mvS f s) = (way p os n s).map (mvS f)
  | 0, _ => rfl
  | n + 1, s => by
    show mvS f s :: (match hop p (mvs f os) (mvS f s) with | none => [] | some st' => way p (mvs f os) n st') = mvS f s :: (match hop p os s with | none => [] | some st' => way p os n st').map (mvS f)
    rw [hop_mv r]
    cases hop p os s with
    | none => rfl
    | some c => exact congrArg _ (way_mv r n c)
theorem plc_mv {s : Nat × Nat} : plc p (mvS f s) = mvS f (plc p s) := rfl
theorem fol_mv (r : Ren h f g) : ∀ l d : List (Nat × Nat), fol p (d.map (mvS f)) (l.map (mvS f)) = ((fol p d l).1.map (mvS f), (fol p d l).2)
  | [], d => rfl
  | s :: l, d => by
    have e : (d.map (mvS f)).findIdx? (fun t => decide (plc p t = plc p (mvS f s))) = d.findIdx? (fun t => decide (plc p t = plc p s)) := by
      rw [List.findIdx?_map]
      congr 1
      funext t
      show decide (mvS f (plc p t) = mvS f (plc p s)) = decide (plc p t = plc p s)
      by_cases c : plc p t = plc p s
      · rw [decide_eq_true c, decide_eq_true (by rw [c])]
      · rw [decide_eq_false c, decide_eq_false fun e => c ((mvS_inj r).mp e)]
    have ea : d.map (mvS f) ++ [mvS f s] = (d ++ [s]).map (mvS f) := by rw [List.map_append]; rfl
    rw [List.map_cons]
    unfold fol
    rw [e]
    cases d.findIdx? (fun t => decide (plc p t = plc p s)) with
    | some b => show (_, _) = (_, _); rw [ea]
    | none =>
      show fol p (d.map (mvS f) ++ [mvS f s]) (l.map (mvS f)) = _
      rw [ea, fol_mv r l (d ++ [s])]
theorem folR_mv (r : Ren h f g) (s : Nat × Nat) : folR p h (mvs f os) (mvS f s) = ((folR p h os s).1.map (mvS f), (folR p h os s).2) := by
  unfold folR
  rw [way_mv r]
  exact fol_mv r _ []
theorem dst_mv (r : Ren h f g) (s : Nat × Nat) : dst p h (mvs f os) (mvS f s) = (dst p h os s).map (mvS f) := by
  unfold dst
  rw [folR_mv r]
  unfold destOf
  cases (folR p h os s).2 with
  | some b => rfl
  | none => exact List.getLast?_map ..
theorem last_mv (r : Ren h f g) {st c : Nat × Nat} {x j : Nat} (l : LastAt p os st x c j) : LastAt p (mvs f os) (mvS f st) x (mvS f c) j := by
  obtain ⟨a, b, d⟩ := l
  refine ⟨by rw [stp_mv r, a]; rfl, b, fun s hs => ?_⟩
  rw [hop_mv r] at hs
  obtain ⟨s0, e, rfl⟩ := Option.map_eq_some_iff.mp hs
  exact d s0 e
theorem hopN_mv (r : Ren h f g) {c : Nat × Nat} {j : Nat} : hopN p (mvs f os) (mvS f c) j = hopN p os c j := by
  unfold hopN
  rw [hop_mv r]
  cases hop p os c <;> rfl
theorem arr_mv (r : Ren h f g) {hs n : Nat} : arr p h (mvs f os) (f hs) n = arr p h os hs n := by
  unfold arr
  congr 1
  funext d
  rw [show ((f hs, d) : Nat × Nat) = mvS f (hs, d) from rfl, folR_mv r]
theorem chs_mv (r : Ren h f g) {hs n : Nat} : chs p h (mvs f os) (f hs) n = chs p h os hs n := by
  unfold chs
  congr 1
  funext d
  rw [show ((f hs, d) : Nat × Nat) = mvS f (hs, d) from rfl, folR_mv r]
theorem ret_mv (r : Ren h f g) {hs n : Nat} : ret p h (mvs f os) (f hs) n = ret p h os hs n := by
  unfold ret
  congr 1
  funext d
  rw [show ((f hs, d) : Nat × Nat) = mvS f (hs, d) from rfl, folR_mv r]
  show ((List.map (mvS f) (folR p h os (hs, d)).1).drop 1).any _ = _
  rw [← List.map_drop, List.any_map]
  congr 1
  funext s
  show decide (f s.1 = f hs) = decide (s.1 = hs)
  by_cases c : s.1 = hs
  · rw [decide_eq_true c, decide_eq_true (by rw [c])]
  · rw [decide_eq_false c, decide_eq_false fun e => c (r.inj.mp e)]
theorem dst_some_mv (r : Ren h f g) {hs t b a : Nat} : dst p h (mvs f os) (f hs, t) = some (f b, a) ↔ dst p h os (hs, t) = some (b, a) := by
  rw [show ((f hs, t) : Nat × Nat) = mvS f (hs, t) from rfl, dst_mv r]
  cases dst p h os (hs, t) with
  | none => simp
  | some c =>
    show some (mvS f c) = some (mvS f (b, a)) ↔ _
    rw [Option.some.injEq, Option.some.injEq, mvS_inj r]
theorem lastP_mv (r : Ren h f g) {hs b day : Nat} {v : V} (l : LastP p h os hs b day v) : LastP p h (mvs f os) (f hs) (f b) day v := by
  rcases l with ⟨e, q⟩ | ⟨t, a, e, q1, q2, q3⟩
  · exact .inl ⟨e, fun t a z => q t a ((dst_some_mv r).mp z)⟩
  · exact .inr ⟨t, a, e, (dst_some_mv r).mpr q1, q2, fun t' a' z => q3 t' a' ((dst_some_mv r).mp z)⟩
theorem lets_perm (r : Ren h f g) : ((lets p h).map (mvS f)).Perm (lets p h) := by
  refine (List.perm_ext_iff_of_nodup ?_ lets_nd).mpr fun s => ?_
  · exact List.pairwise_map.mpr (List.Pairwise.imp (fun {a b} q e => q ((mvS_inj r).mp e)) lets_nd)
  · rw [List.mem_map]
    constructor
    · rintro ⟨q, hq, rfl⟩
      obtain ⟨h1, h2⟩ := mem_lets.mp hq
      exact mem_lets.mpr ⟨(r.lt _).mpr h1, h2⟩
    · intro hs
      obtain ⟨h1, h2⟩ := mem_lets.mp hs
      exact ⟨mvS g s, mem_lets.mpr ⟨(r.symm.lt _).mpr h1, h2⟩, mvS_back r.symm s⟩
theorem chN_mv (r : Ren h f g) : chN p h (mvs f os) = chN p h os := by
  unfold chN
  rw [← List.countP_eq_length_filter, ← List.countP_eq_length_filter, ← (lets_perm r).countP_eq, List.countP_map]
  congr 1
  funext s
  show (dst p h (mvs f os) (mvS f s)).isNone = _
  rw [dst_mv r]
  cases dst p h os s <;> rfl
theorem wo_mv {k : Nat} : wo (mvs f os) k = mvs f (wo os k) := by
  unfold wo mvs
  rw [← List.map_take, ← List.map_drop, ← List.map_append]
theorem harm_mv (r : Ren h f g) : harmN p h (mvs f os) = harmN p h os := by
  unfold harmN
  rw [mvs_len]
  congr 1
  funext k
  rw [wo_mv, chN_mv r, chN_mv r]
theorem prol_mv {l : List Nat} : prol l (mvs f os) = mvs f (prol l os) := by
  unfold prol mvs
  apply List.ext_getElem?
  intro k
  rw [List.getElem?_mapIdx, List.getElem?_map, List.getElem?_map, List.getElem?_mapIdx]
  cases os[k]? <;> rfl
theorem may_mv {l : List Nat} : mayB p (mvs f os) l = mayB p os l := by
  unfold mayB
  congr 1
  funext k
  rw [mvs_get]
  cases os[k]? <;> rfl
theorem plan_mv (r : Ren h f g) {lim : Nat} : planOf p h (mvs f os) lim = planOf p h os lim := by
  unfold planOf
  rw [mvs_len]
  congr 1
  funext l
  unfold goodB
  rw [may_mv, prol_mv, chN_mv r]
theorem used_lets : usedL p h os = (lets p h).map fun s => cellV p os s.1 s.2 := by
  unfold usedL lets
  rw [List.map_flatMap, List.flatMap]
  congr 1
  apply List.map_congr_left
  intro a _
  rw [List.map_map]
  rfl
theorem idle_mv (r : Ren h f g) : idleL p h (mvs f os) = idleL p h os := by
  unfold idleL
  rw [mvs_len, used_lets, used_lets]
  congr 1
  funext k
  unfold inV
  have e : ((lets p h).map fun s => cellV p (mvs f os) s.1 s.2).any (fun y => eqV y (.int (k : Nat))) = ((lets p h).map fun s => cellV p os s.1 s.2).any (fun y => eqV y (.int (k : Nat))) := by
    rw [List.any_map, List.any_map, ← (lets_perm r).any_eq, List.any_map]
    congr 1
    funext s
    show eqV (optV (idx p (mvs f os) (f s.1) (s.2 : Int))) _ = eqV (optV (idx p os s.1 (s.2 : Int))) _
    rw [idx_mv r]
  rw [e]
/-! loops -/
theorem pst_mv (r : Ren h f g) {i : Nat} {s : Nat × Nat} : pst p (mvs f os) i (mvS f s) = (pst p os i s).map (mvS f) := by
  unfold pst
  rw [stp_mv r, Option.map_map, Option.map_map]
  rfl
theorem cyc_mv (r : Ren h f g) {l : List (Nat × Nat)} (c : Cyc p os l) : Cyc p (mvs f os) (l.map (mvS f)) := by
  obtain ⟨F, n, c⟩ := c
  refine ⟨fun i => mvS f (F i), n, c.n0, by rw [c.eq, List.map_map]; rfl, List.pairwise_map.mpr (List.Pairwise.imp (fun {a b} q e => q ((mvS_inj r).mp e)) c.nd), fun i => ?_, fun i => by rw [c.per]⟩
  rw [pst_mv r, c.nx]
  rfl
/-- the loop of the renamed houses -/
def loopMv (p h : Nat) (f : Nat → Nat) (os : List Od) (l : List (Nat × Nat)) : List (Nat × Nat) := canon p h (mvs f os) (l.map (mvS f))
theorem mv_lt (r : Ren h f g) {l : List (Nat × Nat)} (hl : ∀ x ∈ l, x.1 < h) : ∀ x ∈ l.map (mvS f), x.1 < h := fun x hx => by
  obtain ⟨y, hy, rfl⟩ := List.mem_map.mp hx
  exact (r.lt _).mpr (hl y hy)
theorem loopMv_mem (r : Ren h f g) (ok : NetOk p h os) {l : List (Nat × Nat)} (hl : l ∈ loopsN p h os) : loopMv p h f os l ∈ loopsN p h (mvs f os) ∧ ∀ x, x ∈ loopMv p h f os l ↔ x ∈ l.map (mvS f) := by
  obtain ⟨c, _, hx⟩ := (mem_loopsN ok).mp hl
  obtain ⟨a1, a2, a3, _⟩ := canon_spec (mvs_ok r ok) (cyc_mv r c) (mv_lt r hx)
  exact ⟨(mem_loopsN (mvs_ok r ok)).mpr ⟨a1, a2, fun x z => mv_lt r hx x ((a3 x).mp z)⟩, a3⟩
theorem Cyc.nodup {l : List (Nat × Nat)} (c : Cyc p os l) : l.Nodup := by
  obtain ⟨_, _, c⟩ := c
  exact c.nd
theorem loopMv_len (r : Ren h f g) (ok : NetOk p h os) {l : List (Nat × Nat)} (hl : l ∈ loopsN p h os) : (loopMv p h f os l).length = l.length := by
  obtain ⟨m1, m2⟩ := loopMv_mem r ok hl
  have c1 := ((mem_loopsN (mvs_ok r ok)).mp m1).1.nodup
  have c2 := (cyc_mv r ((mem_loopsN ok).mp hl).1).nodup
  rw [((List.perm_ext_iff_of_nodup c1 c2).mpr m2).length_eq, List.length_map]
theorem loops_perm (r : Ren h f g) (ok : NetOk p h os) : ((loopsN p h os).map (loopMv p h f os)).Perm (loopsN p h (mvs f os)) := by
  have ok' := mvs_ok r ok
  refine (List.perm_ext_iff_of_nodup ?_ (loopsN_nd ok')).mpr fun l' => ?_
  · refine List.pairwise_map.mpr (List.Pairwise.imp_of_mem ?_ (loopsN_nd ok))
    intro a b ha hb q e
    obtain ⟨_, ma⟩ := loopMv_mem r ok ha
    obtain ⟨_, mb⟩ := loopMv_mem r ok hb
    obtain ⟨ca, hma, _⟩ := (mem_loopsN ok).mp ha
    obtain ⟨cb, hmb, _⟩ := (mem_loopsN ok).mp hb
    obtain ⟨x, xs, ea⟩ := ca.cons
    have hx : x ∈ a := by rw [ea]; exact List.mem_cons_self
    have h1 := (ma (mvS f x)).mpr (List.mem_map.mpr ⟨x, hx, rfl⟩)
    rw [e] at h1
    obtain ⟨y, hy, ey⟩ := List.mem_map.mp ((mb _).mp h1)
    have exy := (mvS_inj r).mp ey
    rw [exy] at hy
    exact q (ca.uniq cb hma hmb hx hy)
  · rw [List.mem_map]
    constructor
    · rintro ⟨l, hl, rfl⟩
      exact (loopMv_mem r ok hl).1
    · intro hl'
      obtain ⟨c', hm', hx'⟩ := (mem_loopsN ok').mp hl'
      obtain ⟨b1, b2⟩ := loopMv_mem (os := mvs f os) r.symm ok' hl'
      rw [mvs_back r] at b1
      have e0 : loopMv p h g (mvs f os) l' ∈ loopsN p h os := b1
      refine ⟨loopMv p h g (mvs f os) l', e0, ?_⟩
      obtain ⟨c, _, hx⟩ := (mem_loopsN ok).mp e0
      obtain ⟨x, xs, ex⟩ := c'.cons
      have mx : x ∈ l' := by rw [ex]; exact List.mem_cons_self
      have my : mvS g x ∈ loopMv p h g (mvs f os) l' := (b2 _).mpr (List.mem_map.mpr ⟨x, mx, rfl⟩)
      refine canon_eq ok' (cyc_mv r c) (mv_lt r hx) c' hm' (x := x) (List.mem_map.mpr ⟨mvS g x, my, mvS_back r.symm x⟩) mx
theorem sizes_perm (r : Ren h f g) (ok : NetOk p h os) : ((loopsN p h (mvs f os)).map List.length).Perm ((loopsN p h os).map List.length) := by
  have h1 := (loops_perm r ok).map List.length
  rw [List.map_map] at h1
  refine h1.symm.trans (List.Perm.of_eq ?_)
  apply List.map_congr_left
  intro l hl
  exact loopMv_len r ok hl
end
/-! from a mixed list of the houses -/
def renF (h : Nat) (ns : List Nat) (a : Nat) : Nat := if a < h then ns.getD a 0 else a
def renG (h : Nat) (ns : List Nat) (b : Nat) : Nat := if b < h then ns.idxOf b else b
theorem ren_of {h : Nat} {ns : List Nat} (e : ns.Perm (List.range h)) : Ren h (renF h ns) (renG h ns) := by
  have hl : ns.length = h := by rw [e.length_eq, List.length_range]
  have nd : ns.Nodup := e.nodup_iff.mpr List.nodup_range
  have mem : ∀ b, b ∈ ns ↔ b < h := fun b => by rw [e.mem_iff, List.mem_range]
  have get : ∀ a, a < h → ∃ (lt : a < ns.length), ns.getD a 0 = ns[a] ∧ ns[a] < h := fun a ha => by
    have lt : a < ns.length := by omega
    exact ⟨lt, by simp [List.getD, List.getElem?_eq_getElem lt], (mem _).mp (List.getElem_mem lt)⟩
  have flt : ∀ a, renF h ns a < h ↔ a < h := fun a => by
    unfold renF
    by_cases c : a < h
    · rw [if_pos c]
      obtain ⟨_, e1, e2⟩ := get a c
      rw [e1]
      exact ⟨fun _ => c, fun _ => e2⟩
    · rw [if_neg c]
  refine ⟨fun a => ?_, fun b => ?_, flt⟩
  · unfold renG
    by_cases c : a < h
    · rw [if_pos ((flt a).mpr c)]
      unfold renF
      rw [if_pos c]
      obtain ⟨lt, e1, e2⟩ := get a c
      rw [e1]
      exact nd.idxOf_getElem a lt
    · rw [if_neg (fun z => c ((flt a).mp z))]
      unfold renF
      rw [if_neg c]
  · unfold renF
    by_cases c : b < h
    · have hm := (mem b).mpr c
      have lt := List.idxOf_lt_length_iff.mpr hm
      have eg : renG h ns b = ns.idxOf b := if_pos c
      rw [eg, if_pos (by omega)]
      obtain ⟨lt2, e1, _⟩ := get (ns.idxOf b) (by omega)
      rw [e1]
      exact List.getElem_idxOf lt
    · have eg : renG h ns b = b := if_neg c
      rw [eg, if_neg c]
abbrev s_l_shuffled : Stmt := top 53
abbrev N_l_shuffled : List Str := ["_law_d", "_law_items", "_law_pool", "_law_result"]
abbrev P_l_shuffled : List Str := ["_law_d", "_law_items"]
theorem sc_l_shuffled : FnScope N_l_shuffled P_l_shuffled (defScope s_l_shuffled) := ⟨rfl, rfl, rfl, by decide +kernel, rfl, by decide +kernel, by decide +kernel⟩
/-! ### the law's helper: numbers in a random order -/
theorem eraseN_perm {a : Nat} : ∀ {l : List Nat} {k : Nat}, l[k]? = some a → (l.eraseIdx k ++ [a]).Perm l
  | [], _, h => by cases h
  | x :: l, 0, h => by
    obtain rfl : x = a := Option.some.inj h
    exact List.perm_append_singleton x l
  | x :: l, k + 1, h => (eraseN_perm (l := l) (k := k) h).cons x
theorem eraseN_ints : ∀ (l : List Nat) (k : Nat), (nints l).eraseIdx k = nints (l.eraseIdx k)
  | [], _ => rfl
  | _ :: _, 0 => rfl
  | x :: l, k + 1 => congrArg (V.int (x : Nat) :: ·) (eraseN_ints l k)
def spShufI : Sp := fun vs H Q _ => ∃ (d l : Addr) (ks : List Nat), vs = [.ref d, .ref l] ∧ DAt H d ∧ H l = some (.lst (nints ks)) ∧ ks.length ≤ 100 ∧
  ∀ H' r ks', But d H H' → DAt H' d → H r = none → H' r = some (.lst (nints ks')) → ks'.Perm ks → Q (.ref r) H'
section
variable {P : Program} {w : World} {K : PySem.W.Frag} {mg : Str → Option Value} {base : Heap}
theorem ok_shufI {f : Addr} {fd : FuncData} (F : Fun K "_law_shuffled" "_law_shuffled" s_l_shuffled f fd) (B : Blt mg) (DB : Df P w K mg base "_law_below" 2 P_l_below spBelow) : FnOk P w K mg base CX0 3 f fd P_l_shuffled spShufI := by
  obtain ⟨fB, fdB, gB, kB, bB, GB⟩ := DB
  refine F.ok sc_l_shuffled (fun vs H Q E h => ?_) (fun cdv A outer s H vs Q E hr h => ?_)
  · obtain ⟨d, l, ks, rfl, _⟩ := h
    rfl
  · obtain ⟨d, l, ks, rfl, D0, hl, kl, q⟩ := h
    have hu : (A.deeper (PyProof.Rows.envOfC "_law_shuffled" (defScope s_l_shuffled) s.heap.objs.size f cdv)).units + 64 < cLine := hr.units
    refine ⟨_, pss_cons (ps_set (i := 2) sc_l_shuffled.nd rfl (.inl rfl) (pe_callTy call_list_of (by rfl) B.list (by decide +kernel) (pa_cons (pv 1) pa_nil)))
      (pss_cons (ps_set (i := 3) sc_l_shuffled.nd rfl (.inl rfl) (pe_lst pa_nil))
      (pss_cons (ps_while PassesOwn.never (pt_cmpR (op_neD hu) (pv 2) (pe_lst pa_nil) (nomark _))
        (pss_one (ps_expr (pe_bm PySem.F.plainAttrs_list PySem.F.slot_list_append PySem.F.type_list_append mt_append (pv 3) (pa_cons (pe_bm PySem.F.plainAttrs_list PySem.F.slot_list_pop PySem.F.type_list_pop mt_popAt (pv 2) (pa_cons (pe_call GB hr (by rfl) gB kB bB .nil pass0 (pa_cons (pv 0) (pa_cons (pe_callB call_len_seq (by rfl) B.len PySem.boot_len (pa_cons (pv 2) pa_nil)) pa_nil))) pa_nil)) pa_nil)))))
      (pss_one (ps_ret (pv 3))))), ?_⟩
    refine ⟨_, rfl, l, _, rfl, .inl (SqL.of hl), fun p np => ?_⟩
    have sp := same_upd (o := HO.lst (nints ks)) np
    have hp1 : (upd H p (.lst (nints ks))) p = some (.lst (nints ks)) := upd_same
    refine ⟨(by show 0 ≤ sizeLine; decide), fun R nR => ?_⟩
    have sR := same_upd (o := HO.lst []) nR
    have s12 := sp.trans sR
    have hpR := sR _ _ hp1
    have hR1 : (upd (upd H p (.lst (nints ks))) R (.lst [])) R = some (.lst []) := upd_same
    have npR : p ≠ R := ne_of_none hp1 nR
    have hdo := D0.som
    have npd : d ≠ p := by
      obtain ⟨o, ho⟩ := hdo
      exact ne_of_none ho np
    have nRd : d ≠ R := by
      obtain ⟨o, ho⟩ := hdo
      exact ne_of_none (sp _ _ ho) nR
    have D2 := D0.but s12
    have nRH : H R = none := sp.free nR
    generalize (upd (upd H p (.lst (nints ks))) R (.lst [])) = H2 at s12 hpR hR1 D2
    have b2 : But d H H2 := .of s12
    refine ⟨fun m σ' H' => ∃ (kz kr : List Nat), kz.length = m ∧ σ' = [some (.ref d), some (.ref l), some (.ref p), some (.ref R)] ∧ But d H H' ∧ DAt H' d ∧ H' p = some (.lst (nints kz)) ∧ H' R = some (.lst (nints kr)) ∧ (kz ++ kr).Perm ks,
      ⟨ks.length, ks, [], rfl, rfl, b2, D2, hpR, hR1, by rw [List.append_nil]⟩, ?_⟩
    rintro m σ' H3 ⟨kz, kr, rfl, rfl, b3, D3, hz, hr3, perm⟩
    have tot := perm.length_eq
    rw [List.length_append] at tot
    refine ⟨_, rfl, (by show 0 ≤ sizeLine; decide), fun e ne => ?_⟩
    have se := same_upd (o := HO.lst []) ne
    refine ⟨_, _, nints_dp (se _ _ hz), .lst (SqL.of upd_same) .nil, PySem.W.ke_shaped_ints _, by exact PySem.W.ke_shaped_ints [], _, rfl, ?_⟩
    rw [ints_empty]
    have b4 : But d H (upd H3 e (.lst [])) := b3.trans (.of se)
    have D4 := D3.but se
    have hz4 := se _ _ hz
    have hr4 := se _ _ hr3
    generalize (upd H3 e (.lst [])) = H4 at b4 D4 hz4 hr4
    cases kz with
    | nil => exact iteF ⟨_, rfl, q H4 R kr b4 D4 nRH hr4 perm⟩
    | cons k0 kz0 =>
      generalize ekz : k0 :: kz0 = kz at *
      have pos : 0 < kz.length := by rw [← ekz]; exact Nat.succ_pos _
      have nl : (nints kz).length = kz.length := nints_len ..
      have : (!kz.isEmpty) = true := by rw [← ekz]; rfl
      rw [this]
      refine iteT ⟨fun σ2 H' => ∃ (kz2 kr2 : List Nat), kz2.length + 1 = kz.length ∧ σ2 = [some (.ref d), some (.ref l), some (.ref p), some (.ref R)] ∧ But d H H' ∧ DAt H' d ∧ H' p = some (.lst (nints kz2)) ∧ H' R = some (.lst (nints kr2)) ∧ (kz2 ++ kr2).Perm ks, ?_, ?_⟩
      · rintro σ2 H' ⟨kz2, kr2, e1, e2, e3⟩
        exact ⟨kz2.length, by omega, kz2, kr2, rfl, e2, e3⟩
      · refine ⟨_, rfl, .inl ⟨rfl, _, SqL.of hr4⟩, _, rfl, .inl ⟨rfl, _, SqL.of hz4⟩, _, rfl, _, rfl, p, _, rfl, .inl (SqL.of hz4), d, kz.length, by rw [nl]; rfl, D4, pos, by omega, fun H5 i hi b5 D5 => ?_⟩
        have hz5 := b5 _ _ (Ne.symm npd) hz4
        have hr5 := b5 _ _ (Ne.symm nRd) hr4
        have ey : (nints kz)[i]? = some (V.int (kz[i] : Nat)) := by
          unfold nints
          rw [List.getElem?_map, List.getElem?_eq_getElem hi]
          rfl
        refine ⟨p, _, i, i, _, rfl, rfl, hz5, by omega, by omega, seqIx (by rw [nl]; exact hi), ey, ?_⟩
        have hr6 : (upd H5 p (.lst ((nints kz).eraseIdx i))) R = some (.lst (nints kr)) := (upd_ne (Ne.symm npR)).trans hr5
        refine ⟨R, _, _, rfl, rfl, hr6, by rw [nints_len]; exact small1000 (by omega), ?_⟩
        refine ⟨kz.eraseIdx i, kr ++ [kz[i]], ?_, rfl, fun b o n z => ?_, ?_, ?_, ?_, ?_⟩
        · rw [List.length_eraseIdx_of_lt hi]
          omega
        · have n1 : b ≠ p := ne_of_none z np
          have n2 : b ≠ R := ne_of_none z nRH
          rw [upd_ne n2, upd_ne n1]
          exact b5 _ _ n (b4 _ _ n z)
        · obtain ⟨r1, r2, r3, r4, r5, r6⟩ := D5
          exact ⟨r1, r2, r3, r4, r5, (upd_ne nRd).trans ((upd_ne npd).trans r6)⟩
        · rw [upd_ne npR, upd_same, eraseN_ints]
        · rw [upd_same, nints_app]
          rfl
        · refine List.Perm.trans ?_ perm
          have e1 := eraseN_perm (l := kz) (k := i) (List.getElem?_eq_getElem hi)
          refine List.Perm.trans ?_ (e1.append_right kr)
          rw [List.append_assoc]
          exact List.Perm.append_left _ List.perm_append_comm
end
/-! ### k38: what its turns lean on -/
theorem renF_at {h : Nat} {ns : List Nat} {a : Nat} (e : ns.Perm (List.range h)) (ha : a < h) : (nints ns)[a]? = some (V.int (renF h ns a : Nat)) := by
  have hl : ns.length = h := by rw [e.length_eq, List.length_range]
  have lt : a < ns.length := by omega
  unfold nints renF
  rw [List.getElem?_map, List.getElem?_eq_getElem lt, if_pos ha]
  simp [List.getD, List.getElem?_eq_getElem lt]
theorem rg_ints (p : Nat) : rgV 0 (p : Int) = nints (List.range p) := by
  unfold rgV nints
  rw [show ((p : Int) - 0).toNat = p by omega]
  apply List.map_congr_left
  intro i _
  rw [Int.zero_add]
theorem mvO_vs (f : Nat → Nat) (o : Od) : [V.int (f o.s : Nat), V.int (f o.t : Nat)] ++ o.vs.drop 2 = (mvO f o).vs := rfl
structure S38 (C : Addr) (H : Hp) (d nl nw x1 x2 t1 t2 p h : Nat) (os : List Od) (ns : List Nat) (G1 G2 : List Addr) : Prop where
  D : DAt H d
  nets : H nl = some (.lst [.ref x1, .ref x2])
  new : H nw = some (.lst (nints ns))
  L1 : NetAt C H x1 p h os t1 G1
  L2 : NetAt C H x2 p h (mvs (renF h ns) os) t2 G2
  d1 : d ≠ nl
  d2 : d ≠ nw
  d3 : d ∉ G1
  d4 : d ∉ G2
section
variable {C d nl nw x1 x2 t1 t2 : Addr} {p h : Nat} {os : List Od} {ns : List Nat} {G1 G2 : List Addr} {H H' : Hp}
theorem S38.keep (S : S38 C H d nl nw x1 x2 t1 t2 p h os ns G1 G2) (s : Same H H') : S38 C H' d nl nw x1 x2 t1 t2 p h os ns G1 G2 :=
  ⟨S.D.but s, s _ _ S.nets, s _ _ S.new, S.L1.same s, S.L2.same s, S.d1, S.d2, S.d3, S.d4⟩
theorem S38.but (S : S38 C H d nl nw x1 x2 t1 t2 p h os ns G1 G2) (b : But d H H') (D' : DAt H' d) : S38 C H' d nl nw x1 x2 t1 t2 p h os ns G1 G2 :=
  ⟨D', b _ _ (Ne.symm S.d1) S.nets, b _ _ (Ne.symm S.d2) S.new, S.L1.but b (b.tk S.D) S.d3, S.L2.but b (b.tk S.D) S.d4, S.d1, S.d2, S.d3, S.d4⟩
end
def iD (l : List Nat) : PyData := .list ((l.map fun (n : Nat) => (n : Int)).map PyData.int)
def set3D (a b c : List Nat) : PyData := .tuple [iD a, iD b, iD c]
theorem set3_shaped (a b c : List Nat) : PySem.SeqAt.shaped (set3D a b c) = true := by
  simp [set3D, iD, PySem.SeqAt.shaped, PyData.canLay0, PyData.canLayAll0, PyData.depth, PyData.depthAll, PySem.W.ke_canLayAll0, PySem.W.ke_depthAll, -List.map_map]
theorem set3_self (a b c : List Nat) : PyData.eqv (set3D a b c) (set3D a b c) = true := PySem.SeqAt.eqv_refl _ (PySem.SeqAt.canLay_of_shaped (set3_shaped a b c))
theorem iD_shaped (l : List Nat) : PySem.SeqAt.shaped (iD l) = true := PySem.W.ke_shaped_ints _
theorem iD_self (l : List Nat) : PyData.eqv (iD l) (iD l) = true := PySem.SeqAt.eqv_refl _ (PySem.SeqAt.canLay_of_shaped (iD_shaped l))
theorem lastP_scal {p h hs g day : Nat} {os : List Od} {v : V} (l : LastP p h os hs g day v) : scal v v = true := by
  rcases l with ⟨rfl, _⟩ | ⟨t, _, rfl, _⟩ <;> rfl
theorem pl_self (l : List (Nat × Nat)) : PyData.eqv (.list (l.map plD)) (.list (l.map plD)) = true := PySem.SeqAt.eqv_refl _ (PySem.SeqAt.canLay_of_shaped (plDs_shaped l))
def planD : Option (List Nat) → PyData
  | none => .none
  | some l => .tuple (l.map fun (n : Nat) => PyData.int n)
theorem planD_self (o : Option (List Nat)) (h : PySem.SeqAt.shaped (planD o) = true) : PyData.eqv (planD o) (planD o) = true := PySem.SeqAt.eqv_refl _ (PySem.SeqAt.canLay_of_shaped h)
theorem planD_shaped (o : Option (List Nat)) : PySem.SeqAt.shaped (planD o) = true := by
  cases o with
  | none => rfl
  | some l =>
    have e : (l.map fun (n : Nat) => PyData.int n) = (l.map fun (n : Nat) => (n : Int)).map PyData.int := by rw [List.map_map]; rfl
    simp [planD, e, PySem.SeqAt.shaped, PyData.canLay0, PyData.depth, PySem.W.ke_canLayAll0, PySem.W.ke_depthAll, -List.map_map]
theorem planD_dp {K : PySem.W.Frag} {H : Hp} {v : V} {o : Option (List Nat)} (q : OptPlan H v o) : Dp K H v (planD o) := by
  cases o with
  | none =>
    obtain rfl : v = .non := q
    exact .non
  | some l =>
    obtain ⟨u, rfl, hu⟩ := q
    exact .tup hu.sq (nints_dps l)
theorem OptPlan.keep {H H' : Hp} {v : V} {o : Option (List Nat)} (k : FK H H') (q : OptPlan H v o) : OptPlan H' v o := by
  cases o with
  | none => exact q
  | some l => exact PlanAt.keep k q
theorem senders_mv {p h g dy : Nat} {os : List Od} {f g' : Nat → Nat} (r : Ren h f g') {l1 l2 : List (Nat × Nat)} (pw1 : l1.Pairwise fun a b => ltS a b = true) (if1 : ∀ s, s ∈ l1 ↔ s.1 < h ∧ dst p h os s = some (g, dy))
    (pw2 : l2.Pairwise fun a b => ltS a b = true) (if2 : ∀ s, s ∈ l2 ↔ s.1 < h ∧ dst p h (mvs f os) s = some (f g, dy)) : (l1.map (mvS f)).mergeSort (PySem.W.dataLe false plD) = l2 := by
  have nd1 : l1.Nodup := pw1.imp fun {a b} q e => by
    have := ltS_iff.mp q
    rw [e] at this
    omega
  have nd : (l1.map (mvS f)).Nodup := List.pairwise_map.mpr (List.Pairwise.imp (fun {a b} q e => q ((mvS_inj r).mp e)) nd1)
  obtain ⟨o1, o2⟩ := sort_pl nd
  refine sorted_uniq o1 pw2 fun s => ?_
  rw [o2, if2, List.mem_map]
  constructor
  · rintro ⟨q, hq, rfl⟩
    obtain ⟨q1, q2⟩ := (if1 q).mp hq
    exact ⟨(r.lt _).mpr q1, (dst_some_mv r).mpr q2⟩
  · rintro ⟨q1, q2⟩
    have e : mvS f (mvS g' s) = s := mvS_back r.symm s
    refine ⟨mvS g' s, (if1 _).mpr ⟨(r.symm.lt _).mpr q1, ?_⟩, e⟩
    have : dst p h (mvs f os) (f (g' s.1), s.2) = some (f g, dy) := by
      rw [r.fg]
      exact q2
    exact (dst_some_mv r).mp this
theorem sorted_eq : ∀ {a b : List Int}, a.Perm b → a.Pairwise (· ≤ ·) → b.Pairwise (· ≤ ·) → a = b
  | [], b, e, _, _ => (List.Perm.nil_eq e)
  | x :: a, [], e, _, _ => absurd e.length_eq (by simp)
  | x :: a, y :: b, e, p, q => by
    rw [List.pairwise_cons] at p q
    have h1 : x ∈ y :: b := e.subset List.mem_cons_self
    have h2 : y ∈ x :: a := e.symm.subset List.mem_cons_self
    have exy : x = y := by
      rcases List.mem_cons.mp h1 with z | z
      · exact z
      · rcases List.mem_cons.mp h2 with z2 | z2
        · exact z2.symm
        · have := q.1 x z
          have := p.1 y z2
          omega
    subst exy
    rw [sorted_eq (List.Perm.cons_inv e) p.2 q.2]
abbrev s_law : Stmt := top 55
abbrev N_law : List Str := ["_law_script", "_law_d", "_law_period", "_law_houses", "_law_orders", "_law_new", "_law_moved", "_law_nets", "_law_turn", "_law_house", "_law_day_here", "_law_passed", "_law_result", "_law_stops", "_law_goal", "_law_due", "_law_sizes", "_law_net", "_law_one", "_law_place", "_law_at", "_law_loop"]
abbrev P_law : List Str := ["_law_script"]
theorem sc_law : FnScope N_law P_law (defScope s_law) := ⟨rfl, rfl, rfl, by decide +kernel, rfl, by decide +kernel, by decide +kernel⟩
abbrev scNet : Scope := { kind := .function, names := [(".0", .local), ("_law_net", .local), ("sorted", .globalImplicit), ("loops", .globalImplicit)], isGenerator := false, isCoroutine := false }
abbrev rLen (K : PySem.W.Frag) : List V → Hp → VK → Prop := fun xs H Q => ∃ p ys, xs = [V.ref p] ∧ (SqL K H p ys ∨ SqT K H p ys) ∧ Q (V.int ((ys.length : Nat) : Int)) H
section
variable {P : Program} {w : World} {K : PySem.W.Frag} {mg : Str → Option Value} {base : Heap}
set_option maxHeartbeats 0 in
theorem ok_law {f C fR fI fX fS pI : Addr} {fd fdR fdI fdX fdS : FuncData} (F : Fun K "law" "law" s_law f fd) (B : Blt mg) (T : NetT K C) (zm : mg "min" = none) (zo : mg "sorted" = none) (gC : mg "Net" = some (.ref C))
    (DR : Df P w K mg base "_law_random" 2 P_l_random (spRandom K)) (DB : Df P w K mg base "_law_below" 2 P_l_below spBelow) (DP : Df P w K mg base "_law_parts" 4 P_l_parts spParts) (DH : Df P w K mg base "_law_shuffled" 3 P_l_shuffled spShufI) (DY : Df P w K mg base "_law_day" 3 P_l_day spDay0)
    (DL : Df P w K mg base "check_letter" 4 P_check_letter (spLetter C)) (DE : Df P w K mg base "destination" 8 P_destination (spDest C)) (DC : Df P w K mg base "count_hops" 9 P_count_hops (spCount C)) (DS : Df P w K mg base "day_sets" 8 P_day_sets (spSets C))
    (DA : Df P w K mg base "last_posting" 6 P_last_posting (spLastPost C)) (DD : Df P w K mg base "senders" 6 P_senders (spSenders C)) (DM : Df P w K mg base "harmful_orders" 8 P_harmful_orders (spHarm C)) (DO : Df P w K mg base "loops" 8 P_loops (spLoops C)) (DN : Df P w K mg base "plan_days" 8 P_plan_days (spPlanDays C))
    (M : Mk K C fX) (GX : FnOk P w K mg base CX0 5 fX fdX P_Net_init (spInit C)) (bX : Binds K fdX P_Net_init [])
    (FR : Fun K "route" "Net.route" s_Net_route fR fdR) (mR : Meth K C "route" fR) (GR : GFn P w K mg base 5 fR fdR P_Net_route (spRoute C)) (bR : Binds K fdR P_Net_route [])
    (GS : FnOk P w K mg base CX0 2 fS fdS P_Net_stop_after (spStop C)) (mS : Meth K C "stop_after" fS) (bS : Binds K fdS P_Net_stop_after [])
    (pO : PropOf K C "idle_orders" pI fI) (GI : FnOk P w K mg base CX0 2 fI fdI P_Net_idle_orders (spIdle C)) (bI : Binds K fdI P_Net_idle_orders []) : FnOk P w K mg base CX0 10 f fd P_law (spLaw K) := by
  obtain ⟨f1, d1, g1, k1, b1, G1⟩ := DR
  obtain ⟨f2, d2, g2, k2, b2, G2⟩ := DB
  obtain ⟨f3, d3, g3, k3, b3, G3⟩ := DP
  obtain ⟨f4, d4, g4, k4, b4, G4⟩ := DH
  obtain ⟨f5, d5, g5, k5, b5, G5⟩ := DE
  obtain ⟨f6, d6, g6, k6, b6, G6⟩ := DY
  obtain ⟨f7, d7, g7, k7, b7, G7⟩ := DC
  obtain ⟨f8, d8, g8, k8, b8, G8⟩ := DA
  obtain ⟨f9, d9, g9, k9, b9, G9⟩ := DD
  obtain ⟨fa, da, ga, ka, ba, Ga⟩ := DS
  obtain ⟨fb, db, gb, kb, bb, Gb⟩ := DM
  obtain ⟨fc, dc, gc, kc, bc, Gc⟩ := DO
  obtain ⟨fe, de, ge, ke, be, Ge⟩ := DN
  refine F.ok sc_law (fun vs H Q E h => ?_) (fun cdv A outer s H vs Q E hr h => ?_)
  · obtain ⟨a, ns, rfl, _⟩ := h
    rfl
  · obtain ⟨a, ns0, rfl, hS, hlen, q⟩ := h
    have hr2 : Room 2 _ := hr.mono (by decide)
    have hr3 : Room 3 _ := hr.mono (by decide)
    have hr4 : Room 4 _ := hr.mono (by decide)
    have hr5 : Room 5 _ := hr.mono (by decide)
    have hr6 : Room 6 _ := hr.mono (by decide)
    have hr8 : Room 8 _ := hr.mono (by decide)
    have hu65 : (A.deeper (PyProof.Rows.envOfC "law" (defScope s_law) s.heap.objs.size f cdv)).units + 65 < cLine := by
      have := hr.un
      omega
    have hu : (A.deeper (PyProof.Rows.envOfC "law" (defScope s_law) s.heap.objs.size f cdv)).units + 64 < cLine := hr.units
    refine ⟨_, pss_cons (ps_set (i := 1) sc_law.nd rfl (.inl rfl) (pe_call G1 hr2 (by rfl) g1 k1 b1 .nil pass0 (pa_cons (pv 0) (pa_cons pe_int pa_nil))))
      (pss_cons (ps_asg (pe_call G3 hr4 (by rfl) g3 k3 b3 .nil pass0 (pa_cons (pv 1) (pa_cons pe_int pa_nil))) (pg_tup (by rfl) (pgs_cons (pg_name (i := 2) sc_law.nd rfl (.inl rfl)) (pgs_cons (pg_name (i := 3) sc_law.nd rfl (.inl rfl)) (pgs_cons (pg_name (i := 4) sc_law.nd rfl (.inl rfl)) pgs_nil)))))
      (pss_cons (ps_set (i := 5) sc_law.nd rfl (.inr rfl) (pe_call G4 hr3 (by rfl) g4 k4 b4 .nil pass0 (pa_cons (pv 1) (pa_cons (pe_listRg rfl (by rfl) B.list (prg_1 (by rfl) B.range (pv 3))) pa_nil))))
      (pss_cons (ps_set (i := 6) sc_law.nd rfl (.inl rfl) (pe_callTy call_tuple_of (by rfl) B.tuple (by decide +kernel) (pa_cons (pe_lc (own := [("_law_one", 18)]) (g := gName 18) (tt := tYes) (te := tOp (rCatA K) (tTup (tCons (tOp (rIxL K) (tVar 5) (tOp (rIxT K) (tVar 18) (tC (.int 0)))) (tCons (tOp (rIxL K) (tVar 5) (tOp (rIxT K) (tVar 18) (tC (.int 1)))) tNil))) (tSl (rSlA K) (tVar 18) (tPart (tC (.int 2))) tNoPart)) (by rfl) sc_law.nd (pi_tup (pv 4)) (blkOk_by (N := N_law) (sc := defScope s_law) (by decide +kernel))
          (fun _ _ _ _ _ => pg_name (i := 18) sc_law.nd rfl (.inl rfl)) (fun _ _ _ _ _ => pts_nil)
          (fun _ _ _ _ _ => pe_op op_catA (pe_tup (pa_cons (pe_ix ix_list (pv 5) (pe_ix ix_tup (pv 18) pe_int (fun _ _ => rfl)) (fun _ _ => rfl)) (pa_cons (pe_ix ix_list (pv 5) (pe_ix ix_tup (pv 18) pe_int (fun _ _ => rfl)) (fun _ _ => rfl)) pa_nil))) (pe_slice sl_tupA (pv 18) (po_some pe_int) po_none))) pa_nil)))
      (pss_cons (ps_set (i := 7) sc_law.nd rfl (.inl rfl) (pe_lst (pa_cons (pe_make M GX hr6 (by rfl) gC bX .nil pass0 (pa_cons (pv 2) (pa_cons (pv 3) (pa_cons (pv 4) pa_nil)))) (pa_cons (pe_make M GX hr6 (by rfl) gC bX .nil pass0 (pa_cons (pv 2) (pa_cons (pv 3) (pa_cons (pv 6) pa_nil)))) pa_nil))))
      (pss_cons (ps_for PassesOwn.never rfl (pi_range1 rfl B.range (pa_cons pe_int pa_nil)) (pg_name (i := 8) sc_law.nd rfl (.inl rfl))
        (pss_cons (ps_par3 (i := 9) (j := 10) (l := 11) rfl sc_law.nd rfl rfl rfl (by decide) (by decide) (by decide) rfl rfl rfl (pa_cons (pe_call G2 hr2 (by rfl) g2 k2 b2 .nil pass0 (pa_cons (pv 1) (pa_cons (pv 3) pa_nil)))
            (pa_cons (pe_call G6 hr3 (by rfl) g6 k6 b6 .nil pass0 (pa_cons (pv 1) pa_nil)) (pa_cons (pe_call G2 hr2 (by rfl) g2 k2 b2 .nil pass0 (pa_cons (pv 1) (pa_cons pe_int pa_nil))) pa_nil))) (by rfl))
        (pss_cons (ps_set (i := 10) sc_law.nd rfl (.inl rfl) (pe_callB (call_min2 rfl) (by rfl) zm PyProof.Rows.boot_min (pa_cons (pv 10) (pa_cons (pe_op op_sub (pe_op op_pow pe_int pe_int) pe_int) pa_nil))))
        (pss_cons (ps_set (i := 12) sc_law.nd rfl (.inl rfl) (pe_call G5 hr8 (by rfl) g5 k5 b5 .nil pass0 (pa_cons (pe_ix ix_list (pv 7) pe_int (fun _ _ => rfl)) (pa_cons (pv 9) (pa_cons (pv 10) pa_nil)))))
        (C8.pss_cut (ps_if (pt_cmpR (op_neD hu) (pe_call G5 hr8 (by rfl) g5 k5 b5 .nil pass0 (pa_cons (pe_ix ix_list (pv 7) pe_int (fun _ _ => rfl)) (pa_cons (pe_ix ix_list (pv 5) (pv 9) (fun _ _ => rfl)) (pa_cons (pv 10) pa_nil))))
            (pe_ifExp (pt_cmpR op_isN (pv 12) pe_non (nomark _)) pe_non (pe_tup (pa_cons (pe_ix ix_list (pv 5) (pe_ix ix_tup (pv 12) pe_int (fun _ _ => rfl)) (fun _ _ => rfl)) (pa_cons (pe_ix ix_tup (pv 12) pe_int (fun _ _ => rfl)) pa_nil)))) (nomark _)) (pss_one (ps_ret pe_bl)) pss_nil)
        (pss_cons (ps_setLcR (i := 13) (own := [("_law_place", 19), ("_law_at", 20)]) (g := gTup K 2 (gCons (gName 19) (gCons (gName 20) gNil))) (te := tTup (tCons (tOp (rIxL K) (tVar 5) (tVar 19)) (tCons (tVar 20) tNil))) (by rfl) sc_law.nd rfl rfl (sw_true rfl rfl rfl (by decide +kernel)) hr6 T FR mR bR DL GS mS bS (pe_ix ix_list (pv 7) pe_int (fun _ _ => rfl)) (pa_cons (pv 9) (pa_cons (pv 10) (pa_cons pe_int pa_nil)))
            (blkOk_by (N := N_law) (sc := defScope s_law) (by decide +kernel)) (by decide +kernel)
            (fun _ _ _ _ _ => gg_tup2 (i := 19) (j := 20) (by rfl) sc_law.nd rfl rfl rfl rfl) (fun _ _ _ _ _ => ge_tup (ga_cons (ge_ixL (gv 5) (gv 19) (fun _ _ => rfl)) (ga_cons (gv 20) ga_nil))) rfl rfl rfl (by intro _; rfl))
        (pss_cons (ps_if (pt_cmpR (op_neD hu) (pe_listG (pgen_meth (E := E0) (pe_ix ix_list (pv 7) pe_int (fun _ _ => rfl)) T.cl mR GR hr5 bR .nil (pa_cons (pe_ix ix_list (pv 5) (pv 9) (fun _ _ => rfl)) (pa_cons (pv 10) (pa_cons pe_int pa_nil)))) passL (fun _ _ _ z => z.elim) hr8 (by rfl) B.list (by decide +kernel)) (pv 13) (nomark _)) (pss_one (ps_ret pe_bl)) pss_nil)
        (pss_cons (ps_if (pt_cmpR op_ne (pe_call G7 hr (by rfl) g7 k7 b7 .nil pass0 (pa_cons (pe_ix ix_list (pv 7) pe_int (fun _ _ => rfl)) (pa_cons (pv 9) (pa_cons (pv 10) (pa_cons (pe_op op_add (pv 10) (pv 11)) pa_nil)))))
            (pe_call G7 hr (by rfl) g7 k7 b7 .nil pass0 (pa_cons (pe_ix ix_list (pv 7) pe_int (fun _ _ => rfl)) (pa_cons (pe_ix ix_list (pv 5) (pv 9) (fun _ _ => rfl)) (pa_cons (pv 10) (pa_cons (pe_op op_add (pv 10) (pv 11)) pa_nil))))) (nomark _)) (pss_one (ps_ret pe_bl)) pss_nil)
        (pss_cons (ps_if (pt_cmpR (op_neD hu) (pe_call Ga hr8 (by rfl) ga ka ba .nil pass0 (pa_cons (pe_ix ix_list (pv 7) pe_int (fun _ _ => rfl)) (pa_cons (pv 9) pa_nil)))
            (pe_call Ga hr8 (by rfl) ga ka ba .nil pass0 (pa_cons (pe_ix ix_list (pv 7) pe_int (fun _ _ => rfl)) (pa_cons (pe_ix ix_list (pv 5) (pv 9) (fun _ _ => rfl)) pa_nil))) (nomark _)) (pss_one (ps_ret pe_bl)) pss_nil)
        (pss_cons (ps_set (i := 14) sc_law.nd rfl (.inl rfl) (pe_call G2 hr2 (by rfl) g2 k2 b2 .nil pass0 (pa_cons (pv 1) (pa_cons (pv 3) pa_nil))))
        (pss_cons (ps_if (pt_cmpR op_ne (pe_call G8 hr6 (by rfl) g8 k8 b8 .nil pass0 (pa_cons (pe_ix ix_list (pv 7) pe_int (fun _ _ => rfl)) (pa_cons (pv 9) (pa_cons (pv 14) (pa_cons (pv 10) pa_nil)))))
            (pe_call G8 hr6 (by rfl) g8 k8 b8 .nil pass0 (pa_cons (pe_ix ix_list (pv 7) pe_int (fun _ _ => rfl)) (pa_cons (pe_ix ix_list (pv 5) (pv 9) (fun _ _ => rfl)) (pa_cons (pe_ix ix_list (pv 5) (pv 14) (fun _ _ => rfl)) (pa_cons (pv 10) pa_nil))))) (nomark _)) (pss_one (ps_ret pe_bl)) pss_nil)
        (pss_cons (ps_set (i := 15) sc_law.nd rfl (.inl rfl) (pe_callB (cr_sortedD plD hu65) (by rfl) zo PyProof.Rows.boot_sorted (pa_cons (pe_lc (own := [("_law_place", 19), ("_law_at", 20)]) (g := gTup K 2 (gCons (gName 19) (gCons (gName 20) gNil))) (tt := tYes) (te := tTup (tCons (tOp (rIxL K) (tVar 5) (tVar 19)) (tCons (tVar 20) tNil))) (by rfl) sc_law.nd
            (pi_list (pe_call G9 hr6 (by rfl) g9 k9 b9 .nil pass0 (pa_cons (pe_ix ix_list (pv 7) pe_int (fun _ _ => rfl)) (pa_cons (pv 14) (pa_cons (pv 10) pa_nil))))) (blkOk_by (N := N_law) (sc := defScope s_law) (by decide +kernel))
            (fun _ _ _ _ _ => pg_tup (by rfl) (pgs_cons (pg_name (i := 19) sc_law.nd rfl (.inl rfl)) (pgs_cons (pg_name (i := 20) sc_law.nd rfl (.inl rfl)) pgs_nil))) (fun _ _ _ _ _ => pts_nil) (fun _ _ _ _ _ => pe_tup (pa_cons (pe_ix ix_list (pv 5) (pv 19) (fun _ _ => rfl)) (pa_cons (pv 20) pa_nil)))) pa_nil)))
        (pss_one (ps_if (pt_cmpR (op_neD hu) (pe_call G9 hr6 (by rfl) g9 k9 b9 .nil pass0 (pa_cons (pe_ix ix_list (pv 7) pe_int (fun _ _ => rfl)) (pa_cons (pe_ix ix_list (pv 5) (pv 14) (fun _ _ => rfl)) (pa_cons (pv 10) pa_nil)))) (pv 15) (nomark _)) (pss_one (ps_ret pe_bl)) pss_nil))))))))))))))
      (pss_cons (ps_if (PW.pt (pw_or (pt_cmpR (op_neD hu) (pe_prop (pe_ix ix_list (pv 7) pe_int (fun _ _ => rfl)) T.cl pO GI hr3 bI .nil pass0 rfl) (pe_prop (pe_ix ix_list (pv 7) pe_int (fun _ _ => rfl)) T.cl pO GI hr3 bI .nil pass0 rfl) (nomark _))
          (pw_or1 (pt_cmpR (op_neD hu) (pe_call Gb hr8 (by rfl) gb kb bb .nil pass0 (pa_cons (pe_ix ix_list (pv 7) pe_int (fun _ _ => rfl)) pa_nil)) (pe_call Gb hr8 (by rfl) gb kb bb .nil pass0 (pa_cons (pe_ix ix_list (pv 7) pe_int (fun _ _ => rfl)) pa_nil)) (nomark _))))) (pss_one (ps_ret pe_bl)) pss_nil)
      (pss_cons (ps_setLc (i := 16) (own := [("_law_net", 17)]) (g := gName 17) (tt := tYes) (te := tCB (rSortedI K) (tCons (tLc (iList K (tCall (spLoops C) [] E0 (tCons (tVar 17) tNil))) (gName 21) tYes (tCB (rLen K) (tCons (tVar 21) tNil)) [21]) tNil)) (by rfl) sc_law.nd rfl rfl (sw_true rfl rfl rfl (by decide +kernel)) (pi_list (pv 7)) (blkOk_by (N := N_law) (sc := defScope s_law) (by decide +kernel))
          (fun _ _ _ _ _ => pg_name (i := 17) sc_law.nd rfl (.inl rfl)) (fun _ _ _ _ _ => pts_nil)
          (fun _ _ _ _ _ => pe_callB cr_sortedI (by rfl) zo PyProof.Rows.boot_sorted (pa_cons (pe_lc (own := [("_law_loop", 21)]) (g := gName 21) (tt := tYes) (te := tCB (rLen K) (tCons (tVar 21) tNil)) (by rfl) sc_law.nd (pi_list (pe_call Gc hr8 (by rfl) gc kc bc .nil pass0 (pa_cons (pv 17) pa_nil))) (blkOk_by (N := N_law) (sc := scNet) (by decide +kernel))
            (fun _ _ _ _ _ => pg_name (i := 21) sc_law.nd rfl (.inl rfl)) (fun _ _ _ _ _ => pts_nil) (fun _ _ _ _ _ => pe_callB call_len_seq (by rfl) B.len PySem.boot_len (pa_cons (pv 21) pa_nil))) pa_nil)))
      (pss_one (ps_ret (pe_and (pe_cmpR (op_eqD hu) (pe_ix ix_list (pv 16) pe_int (fun _ _ => rfl)) (pe_ix ix_list (pv 16) pe_int (fun _ _ => rfl)) (nomark _))
          (pe_one (pe_cmpR (op_eqD hu) (pe_call Ge hr8 (by rfl) ge ke be .nil pass0 (pa_cons (pe_ix ix_list (pv 7) pe_int (fun _ _ => rfl)) (pa_cons pe_int pa_nil))) (pe_call Ge hr8 (by rfl) ge ke be .nil pass0 (pa_cons (pe_ix ix_list (pv 7) pe_int (fun _ _ => rfl)) (pa_cons pe_int pa_nil))) (nomark _))))))))))))), ?_⟩
    refine ⟨_, rfl, a, ns0, 38, rfl, hS, hlen, by decide, fun H1 d s1 nd D1 => ?_⟩
    refine ⟨_, rfl, d, 8, rfl, D1, by decide, fun H2 ap p h os ok hos b2 D2 nap ⟨t, hap, hO⟩ => ?_⟩
    have p1 := ok.p1; have p30 := ok.p30; have h1 := ok.h1; have h10 := ok.h10
    refine ⟨ap, _, rfl, SqT.of hap, rfl, _, _, rfl, _, _, rfl, _, _, rfl, rfl, ?_⟩
    -- the houses' other numbers
    refine ⟨_, rfl, _, rfl, _, rfl, RgOk.of_le (by omega) (by omega) (by omega) (by omega), fun rg nrg => ?_⟩
    have s3 := same_upd (o := HO.lst (rgV 0 (h : Int))) nrg
    have hrg : (upd H2 rg (.lst (rgV 0 (h : Int)))) rg = some (.lst (nints (List.range h))) := by rw [upd_same, rg_ints]
    have D3 := D2.but s3
    have hO := hO.keep (tk_of s3)
    generalize (upd H2 rg (.lst (rgV 0 (h : Int)))) = H3 at s3 hrg D3 hO
    refine ⟨d, rg, List.range h, rfl, D3, hrg, by rw [List.length_range]; omega, fun H4 nw ns b4 D4 nnw hnw perm => ?_⟩
    have r := ren_of perm
    have ok2 := mvs_ok r ok
    have hO := hO.keep (b4.tk D3)
    have ndnw : d ≠ nw := ne_of_none D3.som.choose_spec nnw
    clear hap nap b2 D2 s3 hrg nrg b4 D3 nnw s1 D1
    -- the orders between them
    obtain ⟨ts, ht, hP⟩ := id hO
    have tl := hP.length
    have ol := ok.len
    refine ⟨_, rfl, t, rfl, ⟨_, SqT.of ht⟩, fun M nM => ?_⟩
    have ndM : d ≠ M := ne_of_none D4.som.choose_spec nM
    refine lc_tup (K := K) (a := t) (xs := ts) (fun i H' => Same H4 H' ∧ ∃ ws, H' M = some (.lst ws) ∧ Paired (OrdAt H') ws ((mvs (renF h ns) os).take i)) ⟨same_upd nM, [], upd_same, .nil⟩ (fun i H' _ ⟨e, _⟩ => SqT.of (e _ _ ht)) ?_ ?_
    · rintro i v H5 hi ⟨s5, ws, hM, hW⟩
      have lt : i < os.length := by rw [← tl]; exact (List.getElem?_eq_some_iff.mp hi).1
      have ei := List.getElem?_eq_getElem lt
      obtain ⟨v', hv', u, rfl, hu⟩ := Paired.get? (i := i) hP ei
      obtain rfl : _ = v := Option.some.inj (hv'.symm.trans hi)
      have ko := ok.ok _ (List.getElem_mem lt)
      have em : (mvs (renF h ns) os)[i]? = some (mvO (renF h ns) os[i]) := by rw [mvs_get, ei]; rfl
      have tk1 : (mvs (renF h ns) os).take (i + 1) = (mvs (renF h ns) os).take i ++ [mvO (renF h ns) os[i]] := by rw [List.take_add_one, em]; rfl
      rw [tk1]
      generalize os[i] = o at hu ko
      have hu5 := s5 _ _ hu
      have hnw5 := s5 _ _ hnw
      refine ⟨rfl, _, rfl, _, rfl, u, _, 0, _, rfl, rfl, SqT.of hu5, atI_nat (j := 0) rfl, nw, _, (o.s : Nat), _, rfl, rfl, SqL.of hnw5, atI_nat (renF_at perm ko.s), ?_⟩
      refine ⟨_, rfl, _, rfl, u, _, 1, _, rfl, rfl, SqT.of hu5, atI_nat (j := 1) rfl, nw, _, (o.t : Nat), _, rfl, rfl, SqL.of hnw5, atI_nat (renF_at perm ko.t), (by show 2 ≤ sizeLine; decide), fun u1 nu1 => ?_⟩
      have sa := same_upd (o := HO.tup [V.int (renF h ns o.s : Nat), V.int (renF h ns o.t : Nat)]) nu1
      refine ⟨_, rfl, 2, rfl, ?_⟩
      unfold tNoPart
      refine slA_case (K := K) (lo := some 2) (hi := none) (sa _ _ hu5) fun u2 H6 s6 hu2 => ?_
      rw [show (some (2 : Int)) = some ((2 : Nat) : Int) from rfl, cut_from] at hu2
      refine ⟨u1, u2, _, _, rfl, rfl, SqT.of (s6 _ _ upd_same), SqT.of hu2, (by show 2 + 3 ≤ sizeLine; decide), (fun z => by cases z), (fun _ z => by cases z), fun _ _ u3 nu3 => ?_⟩
      have sb := same_upd (o := HO.tup (mvO (renF h ns) o).vs) nu3
      have sc := sa.trans (s6.trans sb)
      have hMc := sc _ _ hM
      have nk := TupKeep.lst (o := HO.lst (ws ++ [.ref u3])) hMc
      have nu3M : u3 ≠ M := (ne_of_none hM (sa.trans s6 |>.free nu3)).symm
      refine ⟨ws, hMc, ?_, fun b o' e => ?_, ws ++ [.ref u3], upd_same, ?_⟩
      · rw [hW.length]
        exact small1000 (Nat.le_trans (List.length_take_le _ _) (by omega))
      · rw [upd_ne (ne_of_none e nM)]
        exact sc _ _ (s5 _ _ e)
      · refine Paired.snoc (Paired.mapP hW fun _ _ z => z.keep ((tk_of sc).trans nk)) ⟨u3, rfl, ?_⟩
        rw [upd_ne nu3M]
        exact upd_same
    rintro H5 ⟨s5, ws, hM, hW⟩
    rw [tl, List.take_of_length_le (by rw [mvs_len]; omega)] at hW
    refine ⟨M, ws, rfl, .inl ⟨SqL.of hM, fun t2 nt2 => ?_⟩⟩
    have s6 := same_upd (o := HO.tup ws) nt2
    have hO2 : OrdsTup (upd H5 t2 (.tup ws)) t2 (mvs (renF h ns) os) := ⟨ws, upd_same, Paired.mapP hW fun _ _ z => z.keep (tk_of s6)⟩
    have s56 := s5.trans s6
    have D6 := D4.but s56
    have hO := hO.keep (tk_of s56)
    have hnw6 := s56 _ _ hnw
    generalize (upd H5 t2 (.tup ws)) = H6 at hO2 D6 hO hnw6
    clear s56 s6 hW hM s5 ht hP D4 hnw
    -- both nets
    refine ⟨_, rfl, _, rfl, _, rfl, ?_⟩
    intro x1 dx1 nx1 ndx1 nex1
    have s0 : Same H6 (upd (upd H6 dx1 (.own x1)) x1 (.ins C dx1 [])) := same_updN (same_upd ndx1) nx1
    refine ⟨x1, dx1, t, p, h, os, H6, rfl, ok, hO.keep (tk_of s0), s0, nx1, upd_same, fun H7 G1 s7 nG1 K1 => ⟨rfl, ?_⟩⟩
    have hO2' := hO2.keep (tk_of s7)
    have D7 := D6.but s7
    refine ⟨_, rfl, _, rfl, _, rfl, ?_⟩
    intro x2 dx2 nx2 ndx2 nex2
    have s0' : Same H7 (upd (upd H7 dx2 (.own x2)) x2 (.ins C dx2 [])) := same_updN (same_upd ndx2) nx2
    refine ⟨x2, dx2, t2, p, h, mvs (renF h ns) os, H7, rfl, ok2, hO2'.keep (tk_of s0'), s0', nx2, upd_same, fun H8 G2 s8 nG2 K2 => ⟨rfl, ?_⟩⟩
    refine ⟨(by show 2 ≤ sizeLine; decide), fun nl nnl => ?_⟩
    have s9 := same_upd (o := HO.lst [.ref x1, .ref x2]) nnl
    have dn : ∀ {G : List Addr} {H' : Hp}, DAt H' d → (∀ b ∈ G, H' b = none) → d ∉ G := fun D' n hm => by
      obtain ⟨o, ho⟩ := D'.som
      exact ne_of_none ho (n d hm) rfl
    have S9 : S38 C (upd H8 nl (.lst [.ref x1, .ref x2])) d nl nw x1 x2 t t2 p h os ns G1 G2 :=
      ⟨(D7.but s8).but s9, upd_same, s9 _ _ (s8 _ _ (s7 _ _ hnw6)), (K1.same s8).same s9, K2.same s9, ne_of_none (D7.but s8).som.choose_spec nnl, ndnw, dn D6 nG1, dn D7 nG2⟩
    generalize (upd H8 nl (.lst [.ref x1, .ref x2])) = H9 at S9
    clear s9 s8 s0' nx2 ndx2 nex2 D7 hO2' hO2 s7 s0 nx1 ndx1 nex1 D6 hO hnw6 K1 K2 nG1 nG2 nnl
    refine ⟨5, rfl, by decide, by decide, for_range (lo := 0) (n := (5 : Int).toNat) (fun i σ H' => ∃ y8 y9 y10 y11 y12 y13 y14 y15, σ = [some (.ref a), some (.ref d), some (.int p), some (.int h), some (.ref t), some (.ref nw), some (.ref t2), some (.ref nl), y8, y9, y10, y11, y12, y13, y14, y15, none, none, none, none, none, none] ∧ S38 C H' d nl nw x1 x2 t t2 p h os ns G1 G2)
      ⟨_, _, _, _, _, _, _, _, rfl, S9⟩ ?_ ?_⟩
    · rintro st σ H10 hst ⟨y8, y9, y10, y11, y12, y13, y14, y15, rfl, S10⟩
      -- a letter
      refine ⟨_, rfl, _, rfl, d, h, rfl, S10.D, by omega, by omega, fun H11 hs hhs b11 D11 => ?_⟩
      have S11 := S10.but b11 D11
      refine ⟨_, rfl, d, rfl, D11, fun H12 dy0 hdy0 b12 D12 => ?_⟩
      have S12 := S11.but b12 D12
      refine ⟨_, rfl, d, 60, rfl, D12, by decide, by decide, fun H13 pa hpa b13 D13 => ?_⟩
      have S13 := S12.but b13 D13
      clear S10 S11 S12 b11 b12 b13 D11 D12 D13
      obtain ⟨dy, hdy, edy⟩ : ∃ dy : Nat, dy + 60 ≤ 1000000000000000000 ∧ V.int (if (10 : Int) ^ (18 : Int).toNat - 60 < (dy0 : Int) then (10 : Int) ^ (18 : Int).toNat - 60 else (dy0 : Int)) = V.int (dy : Nat) := by
        rw [show ((10 : Int) ^ (18 : Int).toNat) = 1000000000000000000 from by decide]
        by_cases c : (1000000000000000000 : Int) - 60 < (dy0 : Int)
        · rw [if_pos c]
          exact ⟨1000000000000000000 - 60, by decide, rfl⟩
        · rw [if_neg c]
          exact ⟨dy0, by omega, rfl⟩
      refine ⟨_, _, _, rfl, _, rfl, _, _, rfl, rfl, ⟨by decide, by decide, by decide⟩, _, _, rfl, rfl, _, _, rfl, ?_⟩
      simp only [edy]
      -- its result, by both nets
      have hfs := (r.lt hs).mpr hhs
      have at1 : ∀ {a : Nat}, a < h → atI (nints ns) (a : Nat) = some (V.int (renF h ns a : Nat)) := fun ha => atI_nat (renF_at perm ha)
      refine ⟨_, rfl, nl, _, 0, _, rfl, rfl, SqL.of S13.nets, atI_nat (j := 0) rfl, _, rfl, _, rfl, x1, t, p, h, hs, dy, os, G1, rfl, S13.L1, ok, hhs, by omega, fun H14 v1 s14 hv1 => ?_⟩
      have S14 := S13.keep s14
      have hv1 : OptStop H14 v1 (dst p h os (hs, dy)) := hv1
      refine ⟨fun σ' H' => σ' = [some (.ref a), some (.ref d), some (.int p), some (.int h), some (.ref t), some (.ref nw), some (.ref t2), some (.ref nl), some (.int (0 + (st : Int))), some (.int hs), some (.int dy), some (.int pa), some v1, y13, y14, y15, none, none, none, none, none, none] ∧ S38 C H' d nl nw x1 x2 t t2 p h os ns G1 G2, ?_, ?_⟩
      · refine ⟨_, rfl, nl, _, 1, _, rfl, rfl, SqL.of S14.nets, atI_nat (j := 1) rfl, _, rfl, _, rfl, nw, _, (hs : Nat), _, rfl, rfl, SqL.of S14.new, at1 hhs, _, rfl, x2, t2, p, h, renF h ns hs, dy, mvs (renF h ns) os, G2, rfl, S14.L2, ok2, hfs, by omega, fun H15 v2 s15 hv2 => ?_⟩
        have S15 := S14.keep s15
        have hv2 : OptStop H15 v2 (dst p h (mvs (renF h ns) os) (mvS (renF h ns) (hs, dy))) := hv2
        rw [dst_mv r] at hv2
        refine ⟨_, rfl, rfl, _, rfl, ?_⟩
        cases hq : dst p h os (hs, dy) with
        | none =>
          rw [hq] at hv1 hv2
          obtain rfl : v1 = .non := hv1
          refine iteT ⟨optD none, optD none, opt_dp hv2, .non, optD_shaped _, optD_shaped _, _, rfl, ?_⟩
          rw [optD_eqv, decide_eq_true rfl]
          exact iteF ⟨rfl, S15⟩
        | some c =>
          rw [hq] at hv1 hv2
          obtain ⟨u1, rfl, hu1⟩ := hv1
          have hu1 := s15 _ _ hu1
          have hc := dst_house ok (st := (hs, dy)) hhs hq
          refine iteF ⟨_, rfl, _, rfl, u1, _, 0, _, rfl, rfl, SqT.of hu1, atI_nat (j := 0) rfl, nw, _, (c.1 : Nat), _, rfl, rfl, SqL.of S15.new, at1 hc, _, rfl, u1, _, 1, _, rfl, rfl, SqT.of hu1, atI_nat (j := 1) rfl, (by show 2 ≤ sizeLine; decide), fun u3 nu3 => ?_⟩
          have s16 := same_upd (o := HO.tup [.int (renF h ns c.1 : Nat), .int (c.2 : Nat)]) nu3
          refine ⟨optD (some (mvS (renF h ns) c)), optD (some (mvS (renF h ns) c)), opt_dp (OptStop.keep (tk_of s16) hv2), stop_dp ⟨u3, rfl, upd_same⟩, optD_shaped _, optD_shaped _, _, rfl, ?_⟩
          rw [optD_eqv, decide_eq_true rfl]
          exact iteF ⟨rfl, S15.keep s16⟩
      rintro σ' H15 ⟨rfl, S15⟩
      clear S13 S14 hv1 s14
      -- its stops
      obtain ⟨dx, fl, as0, _, hx, _⟩ := id S15.L1
      have wl := way_len p os 9 (hs, dy)
      refine ⟨_, rfl, nl, _, 0, _, rfl, rfl, SqL.of S15.nets, atI_nat (j := 0) rfl, x1, dx, _, rfl, hx, nf_no (by decide +kernel) (by decide +kernel) (by decide +kernel) (by decide +kernel), _, rfl, _, rfl, t, p, h, hs, dy, 9, os, G1, rfl, S15.L1, ok, hhs, by omega, fun D nD => ?_⟩
      refine ⟨fun i xv H' => ∃ acc, H' D = some (.lst acc) ∧ Same H15 H' ∧ Paired (StopAt H') acc (((way p os 9 (hs, dy)).take i).map (mvS (renF h ns))) ∧ ∀ j, i = j + 1 → ∃ st, (way p os 9 (hs, dy))[j]? = some st ∧ StopAt H' xv st,
        ⟨[], upd_same, same_upd nD, .nil, fun j e => by cases e⟩, fun i xv H' ⟨acc, hD, sm, hacc, hxv⟩ => ⟨S15.L1.same sm, ⟨acc, hD⟩, hxv, fun hl H16 s16 => ?_, fun sx u H16 hst s16 hu hu1 => ?_⟩⟩
      rotate_left
      · have lt : i < (way p os 9 (hs, dy)).length := (List.getElem?_eq_some_iff.mp hst).1
        have hsx := way_house ok (st := (hs, dy)) hhs sx (List.mem_of_getElem? hst)
        refine ⟨u, _, rfl, SqT.of hu1, rfl, _, _, rfl, _, _, rfl, rfl, rfl, ?_⟩
        refine ⟨_, rfl, _, rfl, nw, _, (sx.1 : Nat), _, rfl, rfl, SqL.of (s16 _ _ (sm _ _ S15.new)), at1 hsx, _, rfl, (by show 2 ≤ sizeLine; decide), fun u2 nu2 => ?_⟩
        have s2 := same_upd (o := HO.tup [.int (renF h ns sx.1 : Nat), .int (sx.2 : Nat)]) nu2
        have hD2 := s2 _ _ (s16 _ _ hD)
        have nk := TupKeep.lst (o := HO.lst (acc ++ [.ref u2])) hD2
        have ndu : u2 ≠ D := fun z => by
          rw [z, upd_same] at hD2
          cases hD2
        refine ⟨acc, hD2, ?_, acc ++ [.ref u2], upd_same, fun b o e => ?_, ?_, fun j e => ?_⟩
        · rw [hacc.length, List.length_map]
          exact small1000 (Nat.le_trans (List.length_take_le _ _) (by omega))
        · rw [upd_ne (ne_of_none e nD)]
          exact s2 _ _ (s16 _ _ (sm _ _ e))
        · rw [List.take_add_one, hst, List.map_append]
          refine Paired.snoc (StopsAt.keep ((tk_of (s16.trans s2)).trans nk) hacc) ⟨u2, rfl, ?_⟩
          rw [upd_ne ndu]
          exact upd_same
        · obtain rfl : i = j := by omega
          exact ⟨sx, hst, StopAt.keep ((tk_of s2).trans nk) ⟨u, rfl, hu1⟩⟩
      rw [List.take_of_length_le hl, ← way_mv r] at hacc
      have S16 := (S15.keep sm).keep s16
      have hD16 := s16 _ _ hD
      have hacc : Paired (StopAt H16) acc (way p (mvs (renF h ns) os) 9 (renF h ns hs, dy)) := StopsAt.keep (tk_of s16) hacc
      clear hD hxv sm s16 S15 hx
      obtain ⟨dx2, fl2, as2, _, hx2, _⟩ := id S16.L2
      refine ⟨_, rfl, nl, _, 1, _, rfl, rfl, SqL.of S16.nets, atI_nat (j := 1) rfl, x2, dx2, _, rfl, hx2, nf_no (by decide +kernel) (by decide +kernel) (by decide +kernel) (by decide +kernel), _, rfl, _, rfl, nw, _, (hs : Nat), _, rfl, rfl, SqL.of S16.new, at1 hhs, _, rfl, x2, t2, p, h, renF h ns hs, dy, 9, mvs (renF h ns) os, G2, rfl, S16.L2, ok2, hfs, by omega, by decide, fun ys H17 s17 hys rl nrl => ?_⟩
      have s18 := same_upd (o := HO.lst ys) nrl
      have sA := s17.trans s18
      refine ⟨_, rfl, _, _, .lst (SqL.of upd_same) (stops_dp (StopsAt.keep (tk_of s18) hys)), .lst (SqL.of (sA _ _ hD16)) (stops_dp (StopsAt.keep (tk_of sA) hacc)), plDs_shaped _, plDs_shaped _, _, rfl, ?_⟩
      rw [pl_self]
      refine iteF ?_
      have S18 := S16.keep sA
      generalize (upd H17 rl (.lst ys)) = H18 at S18
      clear sA s17 s18 hacc hD16 S16 hx2
      -- how often it goes on
      refine ⟨_, rfl, nl, _, 0, _, rfl, rfl, SqL.of S18.nets, atI_nat (j := 0) rfl, _, rfl, _, rfl, _, rfl, _, rfl, _, _, rfl, rfl, x1, t, p, h, hs, dy, dy + pa, os, G1, rfl, S18.L1, ok, hhs, by omega, by omega, fun H19 n1 s19 _ hn1 => ?_⟩
      have S19 := S18.keep s19
      refine ⟨_, rfl, nl, _, 1, _, rfl, rfl, SqL.of S19.nets, atI_nat (j := 1) rfl, _, rfl, _, rfl, nw, _, (hs : Nat), _, rfl, rfl, SqL.of S19.new, at1 hhs, _, rfl, _, rfl, _, rfl, _, _, rfl, rfl, x2, t2, p, h, renF h ns hs, dy, dy + pa, mvs (renF h ns) os, G2, rfl, S19.L2, ok2, hfs, by omega, by omega, fun H20 n2 s20 _ hn2 => ?_⟩
      obtain ⟨c3, j3, l3, rfl⟩ := hn1 (Nat.le_add_right _ _)
      obtain ⟨c4, j4, l4, rfl⟩ := hn2 (Nat.le_add_right _ _)
      obtain ⟨rfl, rfl⟩ := (last_mv r l3).uniq ok2 l4
      rw [hopN_mv r]
      refine ⟨rfl, _, rfl, ?_⟩
      rw [decide_eq_true rfl]
      refine iteF ?_
      have S20 := S19.keep s20
      clear S18 S19 s19 s20 hn1 hn2 l3 l4
      -- the sets of days
      refine ⟨_, rfl, nl, _, 0, _, rfl, rfl, SqL.of S20.nets, atI_nat (j := 0) rfl, _, rfl, x1, t, p, h, hs, os, G1, rfl, S20.L1, ok, hhs, fun H21 r1 a1 b1 c1 s21 _ _ _ _ _ _ _ hr1 ha1 hb1 hc1 => ?_⟩
      have S21 := S20.keep s21
      refine ⟨_, rfl, nl, _, 1, _, rfl, rfl, SqL.of S21.nets, atI_nat (j := 1) rfl, _, rfl, _, rfl, nw, _, (hs : Nat), _, rfl, rfl, SqL.of S21.new, at1 hhs, x2, t2, p, h, renF h ns hs, mvs (renF h ns) os, G2, rfl, S21.L2, ok2, hfs, fun H22 r2 a2 b2 c2 s22 _ _ _ _ _ _ _ hr2 ha2 hb2 hc2 => ?_⟩
      rw [arr_mv r] at ha2
      rw [chs_mv r] at hb2
      rw [ret_mv r] at hc2
      refine ⟨set3D (arr p h os hs p) (chs p h os hs p) (ret p h os hs p), set3D (arr p h os hs p) (chs p h os hs p) (ret p h os hs p), .tup (SqT.of (s22 _ _ hr1)) (.cons (nints_dp (s22 _ _ ha1)) (.cons (nints_dp (s22 _ _ hb1)) (.cons (nints_dp (s22 _ _ hc1)) .nil))), .tup (SqT.of hr2) (.cons (nints_dp ha2) (.cons (nints_dp hb2) (.cons (nints_dp hc2) .nil))), set3_shaped _ _ _, set3_shaped _ _ _, _, rfl, ?_⟩
      rw [set3_self]
      refine iteF ?_
      have S22 := S21.keep s22
      clear S20 S21 s21 s22 hr1 ha1 hb1 hc1 hr2 ha2 hb2 hc2
      -- a goal
      refine ⟨_, rfl, _, rfl, d, h, rfl, S22.D, by omega, by omega, fun H23 g hg b23 D23 => ?_⟩
      have S23 := S22.but b23 D23
      have hfg := (r.lt g).mpr hg
      clear S22 b23 D23
      refine ⟨_, rfl, nl, _, 0, _, rfl, rfl, SqL.of S23.nets, atI_nat (j := 0) rfl, _, rfl, _, rfl, _, rfl, x1, t, p, h, hs, g, dy, os, G1, rfl, S23.L1, ok, hhs, hg, by omega, fun H24 v1 s24 hv1 => ?_⟩
      have S24 := S23.keep s24
      refine ⟨_, rfl, nl, _, 1, _, rfl, rfl, SqL.of S24.nets, atI_nat (j := 1) rfl, _, rfl, _, rfl, nw, _, (hs : Nat), _, rfl, rfl, SqL.of S24.new, at1 hhs, _, rfl, _, rfl, nw, _, (g : Nat), _, rfl, rfl, SqL.of S24.new, at1 hg, _, rfl, x2, t2, p, h, renF h ns hs, renF h ns g, dy, mvs (renF h ns) os, G2, rfl, S24.L2, ok2, hfs, hfg, by omega, fun H25 v2 s25 hv2 => ?_⟩
      obtain rfl := (lastP_mv r hv1).uniq hv2
      refine ⟨lastP_scal hv2, _, rfl, ?_⟩
      rw [decide_eq_true rfl]
      refine iteF ?_
      have S25 := S24.keep s25
      clear S23 S24 s24 s25 hv1 hv2
      -- senders
      refine ⟨_, rfl, nl, _, 0, _, rfl, rfl, SqL.of S25.nets, atI_nat (j := 0) rfl, _, rfl, _, rfl, x1, t, p, h, g, dy, os, G1, rfl, S25.L1, ok, hg, by omega, fun H26 r1 ws1 l1 s26 nr1 hr1 hws1 pw1 if1 len1 => ?_⟩
      have S26 := S25.keep s26
      refine ⟨r1, rfl, ⟨_, SqL.of hr1⟩, fun cl ncl => ?_⟩
      refine lc_list (K := K) (a := r1) (xs := ws1) (fun i H' => Same H26 H' ∧ ∃ acc, H' cl = some (.lst acc) ∧ Paired (StopAt H') acc ((l1.take i).map (mvS (renF h ns)))) ⟨same_upd ncl, [], upd_same, .nil⟩ (fun i H' _ ⟨e, _⟩ => SqL.of (e _ _ hr1)) ?_ ?_
      · rintro i v H27 hi ⟨s27, acc, hcl, hacc⟩
        have lt : i < l1.length := by rw [← hws1.length]; exact (List.getElem?_eq_some_iff.mp hi).1
        have ei := List.getElem?_eq_getElem lt
        obtain ⟨v', hv', u, rfl, hu⟩ := Paired.get? (i := i) hws1 ei
        obtain rfl : _ = v := Option.some.inj (hv'.symm.trans hi)
        have hsx := ((if1 _).mp (List.getElem_mem lt)).1
        rw [List.take_add_one, ei]
        generalize l1[i] = sx at hu hsx
        have hu7 := s27 _ _ hu
        refine ⟨u, _, rfl, SqT.of hu7, rfl, _, _, rfl, _, _, rfl, rfl, rfl, ?_⟩
        refine ⟨_, rfl, _, rfl, nw, _, (sx.1 : Nat), _, rfl, rfl, SqL.of (s27 _ _ S26.new), at1 hsx, _, rfl, (by show 2 ≤ sizeLine; decide), fun u2 nu2 => ?_⟩
        have s2 := same_upd (o := HO.tup [.int (renF h ns sx.1 : Nat), .int (sx.2 : Nat)]) nu2
        have hD2 := s2 _ _ hcl
        have nk := TupKeep.lst (o := HO.lst (acc ++ [.ref u2])) hD2
        have ndu : u2 ≠ cl := (ne_of_none hcl nu2).symm
        refine ⟨acc, hD2, ?_, fun b o e => ?_, acc ++ [.ref u2], upd_same, ?_⟩
        · rw [hacc.length, List.length_map]
          exact small1000 (Nat.le_trans (List.length_take_le _ _) (by omega))
        · rw [upd_ne (ne_of_none e ncl)]
          exact s2 _ _ (s27 _ _ e)
        · rw [List.map_append]
          refine Paired.snoc (StopsAt.keep ((tk_of s2).trans nk) hacc) ⟨u2, rfl, ?_⟩
          rw [upd_ne ndu]
          exact upd_same
      rintro H27 ⟨s27, acc, hcl, hacc⟩
      rw [hws1.length, List.take_of_length_le (Nat.le_refl _)] at hacc
      have S27 := S26.keep s27
      refine ⟨cl, acc, l1.map (mvS (renF h ns)), StopAt H27, rfl, SqL.of hcl, hacc, stops_dp hacc, plD_all_alike _, plD_sortable _, fun b _ => plD_depth b, fun ys2 q2 hys2 nq2 => ?_⟩
      have s28 := same_upd (o := HO.lst ys2) nq2
      have S28 := S27.keep s28
      refine ⟨_, rfl, nl, _, 1, _, rfl, rfl, SqL.of S28.nets, atI_nat (j := 1) rfl, _, rfl, _, rfl, nw, _, (g : Nat), _, rfl, rfl, SqL.of S28.new, at1 hg, _, rfl, x2, t2, p, h, renF h ns g, dy, mvs (renF h ns) os, G2, rfl, S28.L2, ok2, hfg, by omega, fun H29 r2 ws2 l2 s29 nr2 hr2 hws2 pw2 if2 len2 => ?_⟩
      rw [senders_mv r pw1 if1 pw2 if2] at hys2
      refine ⟨_, rfl, _, _, .lst (SqL.of hr2) (stops_dp hws2), .lst (SqL.of (s29 _ _ upd_same)) (stops_dp (StopsAt.keep (tk_of (s28.trans s29)) hys2)), plDs_shaped _, plDs_shaped _, _, rfl, ?_⟩
      rw [pl_self]
      exact iteF ⟨_, _, _, _, _, _, _, _, rfl, S28.keep s29⟩
    · rintro σ H10 ⟨y8, y9, y10, y11, y12, y13, y14, y15, rfl, S10⟩
      obtain ⟨dx, fl, as0, _, hx, _⟩ := id S10.L1
      obtain ⟨dx2, fl2, as2, _, hx2, _⟩ := id S10.L2
      -- idle orders, harmful orders
      refine ⟨_, rfl, nl, _, 0, _, rfl, rfl, SqL.of S10.nets, atI_nat (j := 0) rfl, x1, dx, _, rfl, hx, x1, t, p, h, os, G1, rfl, S10.L1, ok, fun H11 i1 s11 _ hi1 => ?_⟩
      have S11 := S10.keep s11
      refine ⟨_, rfl, nl, _, 1, _, rfl, rfl, SqL.of S11.nets, atI_nat (j := 1) rfl, x2, dx2, _, rfl, s11 _ _ hx2, x2, t2, p, h, mvs (renF h ns) os, G2, rfl, S11.L2, ok2, fun H12 i2 s12 _ hi2 => ?_⟩
      rw [idle_mv r] at hi2
      refine ⟨iD (idleL p h os), iD (idleL p h os), nints_dp (s12 _ _ hi1), nints_dp hi2, iD_shaped _, iD_shaped _, _, rfl, ?_⟩
      rw [iD_self]
      have S12 := S11.keep s12
      refine iteF ⟨_, rfl, nl, _, 0, _, rfl, rfl, SqL.of S12.nets, atI_nat (j := 0) rfl, x1, t, p, h, os, G1, rfl, S12.L1, ok, fun H13 m1 s13 _ hm1 => ?_⟩
      have S13 := S12.keep s13
      refine ⟨_, rfl, nl, _, 1, _, rfl, rfl, SqL.of S13.nets, atI_nat (j := 1) rfl, x2, t2, p, h, mvs (renF h ns) os, G2, rfl, S13.L2, ok2, fun H14 m2 s14 _ hm2 => ?_⟩
      rw [harm_mv r] at hm2
      refine ⟨iD (harmN p h os), iD (harmN p h os), nints_dp (s14 _ _ hm1), nints_dp hm2, iD_shaped _, iD_shaped _, _, rfl, ?_⟩
      rw [iD_self]
      refine iteF ?_
      have S14 := S13.keep s14
      clear S10 S11 S12 S13 s11 s12 s13 s14 hi1 hi2 hm1 hm2 hx hx2
      -- how long the loops are
      refine ⟨_, rfl, nl, rfl, ⟨_, SqL.of S14.nets⟩, fun cl ncl => ?_⟩
      refine lc_list (K := K) (a := nl) (xs := [.ref x1, .ref x2]) (fun i H' => Same H14 H' ∧ ∃ acc, H' cl = some (.lst acc) ∧ acc.length = i ∧ ∀ (j : Nat) (v : V), acc[j]? = some v → ∃ (u : Addr) (ks : List Int), v = V.ref u ∧ H' u = some (.lst (ks.map V.int)) ∧ ks.Pairwise (· ≤ ·) ∧ ks.Perm (((loopsN p h os).map List.length).map fun (n : Nat) => (n : Int)))
        ⟨same_upd ncl, [], upd_same, rfl, fun j v e => by simp at e⟩ (fun i H' _ ⟨e, _⟩ => SqL.of (e _ _ S14.nets)) ?_ ?_
      · rintro i v H15 hi ⟨s15, acc, hcl, al, hall⟩
        have S15 := S14.keep s15
        obtain ⟨xi, ti, osi, Gi, rfl, Li, oki, pmi⟩ : ∃ (xi ti : Addr) (osi : List Od) (Gi : List Addr), v = .ref xi ∧ NetAt C H15 xi p h osi ti Gi ∧ NetOk p h osi ∧ ((loopsN p h osi).map List.length).Perm ((loopsN p h os).map List.length) := by
          have hm := List.mem_of_getElem? hi
          simp only [List.mem_cons, List.not_mem_nil, or_false] at hm
          rcases hm with rfl | rfl
          · exact ⟨_, _, _, _, rfl, S15.L1, ok, .refl _⟩
          · exact ⟨_, _, _, _, rfl, S15.L2, ok2, sizes_perm r ok⟩
        have il : i < 2 := (List.getElem?_eq_some_iff.mp hi).1
        refine ⟨rfl, _, rfl, xi, ti, p, h, osi, Gi, rfl, Li, oki, fun H16 rr as s16 hl => ?_⟩
        refine ⟨rr, rfl, ⟨_, SqL.of hl.at_⟩, fun D2 nD2 => ?_⟩
        have llen := hl.loops.length
        have big : (loopsN p h osi).length ≤ 300 := Nat.le_trans (List.length_filterMap_le _ _) (by rw [lets_len]; exact Nat.mul_le_mul h10 p30)
        refine lc_list (K := K) (a := rr) (xs := as.map V.ref) (fun j H'' => Same H16 H'' ∧ H'' D2 = some (.lst (((((loopsN p h osi).take j).map List.length).map fun (n : Nat) => (n : Int)).map V.int))) ⟨same_upd nD2, upd_same⟩ (fun j H'' _ ⟨e, _⟩ => SqL.of (e _ _ hl.at_)) ?_ ?_
        · rintro j w H17 hj ⟨s17, hD2⟩
          rw [List.getElem?_map] at hj
          obtain ⟨b, hb, rfl⟩ := Option.map_eq_some_iff.mp hj
          have lt : j < (loopsN p h osi).length := by rw [← llen]; exact (List.getElem?_eq_some_iff.mp hb).1
          have ej := List.getElem?_eq_getElem lt
          obtain ⟨b', hb', u, ws, e0, hu, hws⟩ := Paired.get? (i := j) hl.loops ej
          obtain rfl : b' = b := Option.some.inj (hb'.symm.trans hb)
          cases e0
          refine ⟨rfl, _, rfl, b', ws, rfl, .inl (SqL.of (s17 _ _ hu)), _, hD2, ?_, fun c o e => ?_, ?_⟩
          · rw [List.length_map, List.length_map, List.length_map]
            exact small1000 (Nat.le_trans (List.length_take_le _ _) (by omega))
          · rw [upd_ne (ne_of_none e nD2)]
            exact s17 _ _ e
          · rw [upd_same, List.take_add_one, ej, hws.length, List.map_append, List.map_append, List.map_append]
            rfl
        rintro H17 ⟨s17, hD2⟩
        rw [List.length_map, llen, List.take_of_length_le (Nat.le_refl _)] at hD2
        refine ⟨D2, _, rfl, SqL.of hD2, fun ks pp pk pw np => ?_⟩
        have s18 := same_upd (o := HO.lst (ks.map V.int)) np
        have sA := s16.trans (s17.trans s18)
        have hclA := sA _ _ hcl
        refine ⟨acc, hclA, ?_, fun c o e => ?_, acc ++ [.ref pp], upd_same, by rw [List.length_append, al]; rfl, fun j v e => ?_⟩
        · rw [al]
          exact small1000 (by omega)
        · rw [upd_ne (ne_of_none e ncl)]
          exact sA _ _ (s15 _ _ e)
        · have npc : pp ≠ cl := (ne_of_none ((s16.trans s17) _ _ hcl) np).symm
          by_cases c : j < acc.length
          · rw [List.getElem?_append_left c] at e
            obtain ⟨u, ks', rfl, hu, h2⟩ := hall j v e
            refine ⟨u, ks', rfl, ?_, h2⟩
            by_cases cu : u = cl
            · subst cu
              rw [hcl] at hu
              have hu := Option.some.inj hu
              cases hu
              exfalso
              obtain ⟨k0, hk0⟩ : ∃ k0, (ks'.map V.int)[j]? = some (V.int k0) := by
                have lj : j < ks'.length := by rw [List.length_map] at c; exact c
                exact ⟨ks'[j], by rw [List.getElem?_map, List.getElem?_eq_getElem lj]; rfl⟩
              rw [hk0] at e
              cases e
            · rw [upd_ne cu]
              exact sA _ _ hu
          · rw [List.getElem?_append_right (by omega)] at e
            have e1 : j - acc.length = 0 := by
              have := (List.getElem?_eq_some_iff.mp e).1
              simp at this
              omega
            rw [e1] at e
            obtain rfl := Option.some.inj e
            exact ⟨pp, ks, rfl, by rw [upd_ne npc]; exact upd_same, pw, pk.trans (pmi.map _)⟩
      rintro H15 ⟨s15, acc, hcl, al, hall⟩
      have S15 := S14.keep s15
      have al : acc.length = 2 := al
      obtain ⟨ua, ka, ea, ha, pa, qa⟩ := hall 0 _ (List.getElem?_eq_getElem (by omega))
      obtain ⟨ub, kb', eb, hb, pb, qb⟩ := hall 1 _ (List.getElem?_eq_getElem (by omega))
      obtain rfl := sorted_eq (qa.trans qb.symm) pa pb
      refine ⟨_, rfl, cl, _, 0, _, rfl, rfl, SqL.of hcl, atI_nat (j := 0) (List.getElem?_eq_getElem (by omega)), _, rfl, cl, _, 1, _, rfl, rfl, SqL.of hcl, atI_nat (j := 1) (List.getElem?_eq_getElem (by omega)), ?_⟩
      rw [ea, eb]
      have dpI : ∀ {u : Addr}, H15 u = some (.lst (ka.map V.int)) → Dp K H15 (.ref u) (.list (ka.map PyData.int)) := fun hu => .lst (SqL.of hu) (by
        clear hu ha hb pa qa qb pb
        induction ka with
        | nil => exact .nil
        | cons k r ih => exact .cons (.int _) ih)
      refine ⟨_, _, dpI ha, dpI hb, PySem.W.ke_shaped_ints _, PySem.W.ke_shaped_ints _, ?_⟩
      rw [nints_eqv]
      -- plans
      refine ⟨_, rfl, iteT ⟨_, rfl, nl, _, 0, _, rfl, rfl, SqL.of S15.nets, atI_nat (j := 0) rfl, x1, t, p, h, 1, os, G1, rfl, S15.L1, ok, by decide, fun H16 w1 s16 hw1 => ?_⟩⟩
      have S16 := S15.keep s16
      refine ⟨_, rfl, nl, _, 1, _, rfl, rfl, SqL.of S16.nets, atI_nat (j := 1) rfl, x2, t2, p, h, 1, mvs (renF h ns) os, G2, rfl, S16.L2, ok2, by decide, fun H17 w2 s17 hw2 => ?_⟩
      rw [plan_mv r] at hw2
      refine ⟨_, _, planD_dp (hw1.keep (fk_of s17)), planD_dp hw2, planD_shaped _, planD_shaped _, ?_⟩
      rw [planD_self _ (planD_shaped _)]
      exact q _
end
set_option maxHeartbeats 0 in
theorem all_mk {l : PySem.W.OpenLaw} {w : World} {K : PySem.W.Frag} {h : Heap} {mg : Str → Option Value} {fa : Addr} (X : K.In h) (G : h.Ns mainGlobals mg) (hfa : mg "law" = some (.ref fa))
    {C_Net : Addr}
    {f1 : Addr} {od1 an1 : Option Addr} {sl1 : Array (Option Value)} {oc1 kV1 dc1 pm1 cd1 ct1 : Value}
    {f2 : Addr} {od2 an2 : Option Addr} {sl2 : Array (Option Value)} {oc2 kV2 dc2 pm2 cd2 ct2 : Value}
    {f3 : Addr} {od3 an3 : Option Addr} {sl3 : Array (Option Value)} {oc3 kV3 dc3 pm3 cd3 ct3 : Value}
    {f4 : Addr} {od4 an4 : Option Addr} {sl4 : Array (Option Value)} {oc4 kV4 dc4 pm4 cd4 ct4 : Value}
    {f5 : Addr} {od5 an5 : Option Addr} {sl5 : Array (Option Value)} {oc5 kV5 dc5 pm5 cd5 ct5 : Value}
    {f6 : Addr} {od6 an6 : Option Addr} {sl6 : Array (Option Value)} {oc6 kV6 dc6 pm6 cd6 ct6 : Value}
    {f7 : Addr} {od7 an7 : Option Addr} {sl7 : Array (Option Value)} {oc7 kV7 dc7 pm7 cd7 ct7 : Value}
    {f8 : Addr} {od8 an8 : Option Addr} {sl8 : Array (Option Value)} {oc8 kV8 dc8 pm8 cd8 ct8 : Value}
    {f9 : Addr} {od9 an9 : Option Addr} {sl9 : Array (Option Value)} {oc9 kV9 dc9 pm9 cd9 ct9 : Value}
    {f10 : Addr} {od10 an10 : Option Addr} {sl10 : Array (Option Value)} {oc10 kV10 dc10 pm10 cd10 ct10 : Value}
    {f11 : Addr} {od11 an11 : Option Addr} {sl11 : Array (Option Value)} {oc11 kV11 dc11 pm11 cd11 ct11 : Value}
    {f12 : Addr} {od12 an12 : Option Addr} {sl12 : Array (Option Value)} {oc12 kV12 dc12 pm12 cd12 ct12 : Value}
    {f13 : Addr} {od13 an13 : Option Addr} {sl13 : Array (Option Value)} {oc13 kV13 dc13 pm13 cd13 ct13 : Value}
    {f14 : Addr} {od14 an14 : Option Addr} {sl14 : Array (Option Value)} {oc14 kV14 dc14 pm14 cd14 ct14 : Value}
    {f15 : Addr} {od15 an15 : Option Addr} {sl15 : Array (Option Value)} {oc15 kV15 dc15 pm15 cd15 ct15 : Value}
    {f16 : Addr} {od16 an16 : Option Addr} {sl16 : Array (Option Value)} {oc16 kV16 dc16 pm16 cd16 ct16 : Value}
    {f17 : Addr} {od17 an17 : Option Addr} {sl17 : Array (Option Value)} {oc17 kV17 dc17 pm17 cd17 ct17 : Value}
    {f18 : Addr} {od18 an18 : Option Addr} {sl18 : Array (Option Value)} {oc18 kV18 dc18 pm18 cd18 ct18 : Value}
    {f19 : Addr} {od19 an19 : Option Addr} {sl19 : Array (Option Value)} {oc19 kV19 dc19 pm19 cd19 ct19 : Value}
    {f20 : Addr} {od20 an20 : Option Addr} {sl20 : Array (Option Value)} {oc20 kV20 dc20 pm20 cd20 ct20 : Value}
    {f21 : Addr} {od21 an21 : Option Addr} {sl21 : Array (Option Value)} {oc21 kV21 dc21 pm21 cd21 ct21 : Value}
    {f22 : Addr} {od22 an22 : Option Addr} {sl22 : Array (Option Value)} {oc22 kV22 dc22 pm22 cd22 ct22 : Value}
    {f23 : Addr} {od23 an23 : Option Addr} {sl23 : Array (Option Value)} {oc23 kV23 dc23 pm23 cd23 ct23 : Value}
    {f24 : Addr} {od24 an24 : Option Addr} {sl24 : Array (Option Value)} {oc24 kV24 dc24 pm24 cd24 ct24 : Value}
    {f25 : Addr} {od25 an25 : Option Addr} {sl25 : Array (Option Value)} {oc25 kV25 dc25 pm25 cd25 ct25 : Value}
    {f26 : Addr} {od26 an26 : Option Addr} {sl26 : Array (Option Value)} {oc26 kV26 dc26 pm26 cd26 ct26 : Value}
    {f27 : Addr} {od27 an27 : Option Addr} {sl27 : Array (Option Value)} {oc27 kV27 dc27 pm27 cd27 ct27 : Value}
    {f28 : Addr} {od28 an28 : Option Addr} {sl28 : Array (Option Value)} {oc28 kV28 dc28 pm28 cd28 ct28 : Value}
    {f29 : Addr} {od29 an29 : Option Addr} {sl29 : Array (Option Value)} {oc29 kV29 dc29 pm29 cd29 ct29 : Value}
    {f30 : Addr} {od30 an30 : Option Addr} {sl30 : Array (Option Value)} {oc30 kV30 dc30 pm30 cd30 ct30 : Value}
    {f31 : Addr} {od31 an31 : Option Addr} {sl31 : Array (Option Value)} {oc31 kV31 dc31 pm31 cd31 ct31 : Value}
    {f32 : Addr} {od32 an32 : Option Addr} {sl32 : Array (Option Value)} {oc32 kV32 dc32 pm32 cd32 ct32 : Value}
    {f33 : Addr} {od33 an33 : Option Addr} {sl33 : Array (Option Value)} {oc33 kV33 dc33 pm33 cd33 ct33 : Value}
    {f34 : Addr} {od34 an34 : Option Addr} {sl34 : Array (Option Value)} {oc34 kV34 dc34 pm34 cd34 ct34 : Value}
    {f35 : Addr} {od35 an35 : Option Addr} {sl35 : Array (Option Value)} {oc35 kV35 dc35 pm35 cd35 ct35 : Value}
    {f36 : Addr} {od36 an36 : Option Addr} {sl36 : Array (Option Value)} {oc36 kV36 dc36 pm36 cd36 ct36 : Value}
    {f37 : Addr} {od37 an37 : Option Addr} {sl37 : Array (Option Value)} {oc37 kV37 dc37 pm37 cd37 ct37 : Value}
    {f38 : Addr} {od38 an38 : Option Addr} {sl38 : Array (Option Value)} {oc38 kV38 dc38 pm38 cd38 ct38 : Value}
    {f39 : Addr} {od39 an39 : Option Addr} {sl39 : Array (Option Value)} {oc39 kV39 dc39 pm39 cd39 ct39 : Value}
    {f40 : Addr} {od40 an40 : Option Addr} {sl40 : Array (Option Value)} {oc40 kV40 dc40 pm40 cd40 ct40 : Value}
    {p40 : Addr} {pr40 : List Value}
    {tkLAST_DAY : Tok}
    {tkLONGEST_PERIOD : Tok}
    {tkMOST_HOUSES : Tok}
    {tkMOST_ORDERS : Tok}
    {tkLONGEST_DELAY : Tok}
    {tkHIGHEST_LIMIT : Tok}
    (aCNet : PySem.W.nsIn K mainGlobals "Net" = some (some (.ref C_Net)))
    (a1 : PySem.W.nsIn K mainGlobals "is_integer" = some (some (.ref f1)))
    (l1 : K.lookup f1 = some ⟨oc1, od1, .func (PySem.W.fnOf "is_integer" "is_integer" (defArgs s_is_integer) (defBody s_is_integer) (defScope s_is_integer) .none kV1 dc1 pm1 an1 cd1 ct1), sl1⟩)
    (c1 : PySem.W.codeIn K cd1 "is_integer" = true)
    (k1 : PySem.W.keepIn K (.ref f1) = true)
    (a2 : PySem.W.nsIn K mainGlobals "is_within" = some (some (.ref f2)))
    (l2 : K.lookup f2 = some ⟨oc2, od2, .func (PySem.W.fnOf "is_within" "is_within" (defArgs s_is_within) (defBody s_is_within) (defScope s_is_within) .none kV2 dc2 pm2 an2 cd2 ct2), sl2⟩)
    (c2 : PySem.W.codeIn K cd2 "is_within" = true)
    (k2 : PySem.W.keepIn K (.ref f2) = true)
    (a3 : PySem.W.nsIn K mainGlobals "is_order" = some (some (.ref f3)))
    (l3 : K.lookup f3 = some ⟨oc3, od3, .func (PySem.W.fnOf "is_order" "is_order" (defArgs s_is_order) (defBody s_is_order) (defScope s_is_order) .none kV3 dc3 pm3 an3 cd3 ct3), sl3⟩)
    (c3 : PySem.W.codeIn K cd3 "is_order" = true)
    (k3 : PySem.W.keepIn K (.ref f3) = true)
    (a4 : PySem.W.nsIn K mainGlobals "check_orders" = some (some (.ref f4)))
    (l4 : K.lookup f4 = some ⟨oc4, od4, .func (PySem.W.fnOf "check_orders" "check_orders" (defArgs s_check_orders) (defBody s_check_orders) (defScope s_check_orders) .none kV4 dc4 pm4 an4 cd4 ct4), sl4⟩)
    (c4 : PySem.W.codeIn K cd4 "check_orders" = true)
    (k4 : PySem.W.keepIn K (.ref f4) = true)
    (a5 : PySem.W.nsIn K mainGlobals "find_followed" = some (some (.ref f5)))
    (l5 : K.lookup f5 = some ⟨oc5, od5, .func (PySem.W.fnOf "find_followed" "find_followed" (defArgs s_find_followed) (defBody s_find_followed) (defScope s_find_followed) .none kV5 dc5 pm5 an5 cd5 ct5), sl5⟩)
    (c5 : PySem.W.codeIn K cd5 "find_followed" = true)
    (k5 : PySem.W.keepIn K (.ref f5) = true)
    (a6 : PySem.W.nsIn K mainGlobals "check_house" = some (some (.ref f6)))
    (l6 : K.lookup f6 = some ⟨oc6, od6, .func (PySem.W.fnOf "check_house" "check_house" (defArgs s_check_house) (defBody s_check_house) (defScope s_check_house) .none kV6 dc6 pm6 an6 cd6 ct6), sl6⟩)
    (c6 : PySem.W.codeIn K cd6 "check_house" = true)
    (k6 : PySem.W.keepIn K (.ref f6) = true)
    (a7 : PySem.W.nsIn K mainGlobals "check_day" = some (some (.ref f7)))
    (l7 : K.lookup f7 = some ⟨oc7, od7, .func (PySem.W.fnOf "check_day" "check_day" (defArgs s_check_day) (defBody s_check_day) (defScope s_check_day) .none kV7 dc7 pm7 an7 cd7 ct7), sl7⟩)
    (c7 : PySem.W.codeIn K cd7 "check_day" = true)
    (k7 : PySem.W.keepIn K (.ref f7) = true)
    (a8 : PySem.W.nsIn K mainGlobals "check_letter" = some (some (.ref f8)))
    (l8 : K.lookup f8 = some ⟨oc8, od8, .func (PySem.W.fnOf "check_letter" "check_letter" (defArgs s_check_letter) (defBody s_check_letter) (defScope s_check_letter) .none kV8 dc8 pm8 an8 cd8 ct8), sl8⟩)
    (c8 : PySem.W.codeIn K cd8 "check_letter" = true)
    (k8 : PySem.W.keepIn K (.ref f8) = true)
    (a9 : PySem.W.nsIn K mainGlobals "_law_random" = some (some (.ref f9)))
    (l9 : K.lookup f9 = some ⟨oc9, od9, .func (PySem.W.fnOf "_law_random" "_law_random" (defArgs s_l_random) (defBody s_l_random) (defScope s_l_random) .none kV9 dc9 pm9 an9 cd9 ct9), sl9⟩)
    (c9 : PySem.W.codeIn K cd9 "_law_random" = true)
    (k9 : PySem.W.keepIn K (.ref f9) = true)
    (a10 : PySem.W.nsIn K mainGlobals "_law_below" = some (some (.ref f10)))
    (l10 : K.lookup f10 = some ⟨oc10, od10, .func (PySem.W.fnOf "_law_below" "_law_below" (defArgs s_l_below) (defBody s_l_below) (defScope s_l_below) .none kV10 dc10 pm10 an10 cd10 ct10), sl10⟩)
    (c10 : PySem.W.codeIn K cd10 "_law_below" = true)
    (k10 : PySem.W.keepIn K (.ref f10) = true)
    (a11 : PySem.W.nsIn K mainGlobals "_law_order" = some (some (.ref f11)))
    (l11 : K.lookup f11 = some ⟨oc11, od11, .func (PySem.W.fnOf "_law_order" "_law_order" (defArgs s_l_order) (defBody s_l_order) (defScope s_l_order) .none kV11 dc11 pm11 an11 cd11 ct11), sl11⟩)
    (c11 : PySem.W.codeIn K cd11 "_law_order" = true)
    (k11 : PySem.W.keepIn K (.ref f11) = true)
    (a12 : PySem.W.nsIn K mainGlobals "_law_parts" = some (some (.ref f12)))
    (l12 : K.lookup f12 = some ⟨oc12, od12, .func (PySem.W.fnOf "_law_parts" "_law_parts" (defArgs s_l_parts) (defBody s_l_parts) (defScope s_l_parts) .none kV12 dc12 pm12 an12 cd12 ct12), sl12⟩)
    (c12 : PySem.W.codeIn K cd12 "_law_parts" = true)
    (k12 : PySem.W.keepIn K (.ref f12) = true)
    (a13 : PySem.W.nsIn K mainGlobals "_law_day" = some (some (.ref f13)))
    (l13 : K.lookup f13 = some ⟨oc13, od13, .func (PySem.W.fnOf "_law_day" "_law_day" (defArgs s_l_day) (defBody s_l_day) (defScope s_l_day) .none kV13 dc13 pm13 an13 cd13 ct13), sl13⟩)
    (c13 : PySem.W.codeIn K cd13 "_law_day" = true)
    (k13 : PySem.W.keepIn K (.ref f13) = true)
    (a14 : PySem.W.nsIn K mainGlobals "follow" = some (some (.ref f14)))
    (l14 : K.lookup f14 = some ⟨oc14, od14, .func (PySem.W.fnOf "follow" "follow" (defArgs s_follow) (defBody s_follow) (defScope s_follow) .none kV14 dc14 pm14 an14 cd14 ct14), sl14⟩)
    (c14 : PySem.W.codeIn K cd14 "follow" = true)
    (k14 : PySem.W.keepIn K (.ref f14) = true)
    (a15 : PySem.W.nsIn K mainGlobals "destination" = some (some (.ref f15)))
    (l15 : K.lookup f15 = some ⟨oc15, od15, .func (PySem.W.fnOf "destination" "destination" (defArgs s_destination) (defBody s_destination) (defScope s_destination) .none kV15 dc15 pm15 an15 cd15 ct15), sl15⟩)
    (c15 : PySem.W.codeIn K cd15 "destination" = true)
    (k15 : PySem.W.keepIn K (.ref f15) = true)
    (a16 : PySem.W.nsIn K mainGlobals "day_sets" = some (some (.ref f16)))
    (l16 : K.lookup f16 = some ⟨oc16, od16, .func (PySem.W.fnOf "day_sets" "day_sets" (defArgs s_day_sets) (defBody s_day_sets) (defScope s_day_sets) .none kV16 dc16 pm16 an16 cd16 ct16), sl16⟩)
    (c16 : PySem.W.codeIn K cd16 "day_sets" = true)
    (k16 : PySem.W.keepIn K (.ref f16) = true)
    (a17 : PySem.W.nsIn K mainGlobals "last_stop" = some (some (.ref f17)))
    (l17 : K.lookup f17 = some ⟨oc17, od17, .func (PySem.W.fnOf "last_stop" "last_stop" (defArgs s_last_stop) (defBody s_last_stop) (defScope s_last_stop) .none kV17 dc17 pm17 an17 cd17 ct17), sl17⟩)
    (c17 : PySem.W.codeIn K cd17 "last_stop" = true)
    (k17 : PySem.W.keepIn K (.ref f17) = true)
    (a18 : PySem.W.nsIn K mainGlobals "count_hops" = some (some (.ref f18)))
    (l18 : K.lookup f18 = some ⟨oc18, od18, .func (PySem.W.fnOf "count_hops" "count_hops" (defArgs s_count_hops) (defBody s_count_hops) (defScope s_count_hops) .none kV18 dc18 pm18 an18 cd18 ct18), sl18⟩)
    (c18 : PySem.W.codeIn K cd18 "count_hops" = true)
    (k18 : PySem.W.keepIn K (.ref f18) = true)
    (a19 : PySem.W.nsIn K mainGlobals "letters" = some (some (.ref f19)))
    (l19 : K.lookup f19 = some ⟨oc19, od19, .func (PySem.W.fnOf "letters" "letters" (defArgs s_letters) (defBody s_letters) (defScope s_letters) .none kV19 dc19 pm19 an19 cd19 ct19), sl19⟩)
    (c19 : PySem.W.codeIn K cd19 "letters" = true)
    (k19 : PySem.W.keepIn K (.ref f19) = true)
    (a20 : PySem.W.nsIn K mainGlobals "day_stops" = some (some (.ref f20)))
    (l20 : K.lookup f20 = some ⟨oc20, od20, .func (PySem.W.fnOf "day_stops" "day_stops" (defArgs s_day_stops) (defBody s_day_stops) (defScope s_day_stops) .none kV20 dc20 pm20 an20 cd20 ct20), sl20⟩)
    (c20 : PySem.W.codeIn K cd20 "day_stops" = true)
    (k20 : PySem.W.keepIn K (.ref f20) = true)
    (a21 : PySem.W.nsIn K mainGlobals "loops" = some (some (.ref f21)))
    (l21 : K.lookup f21 = some ⟨oc21, od21, .func (PySem.W.fnOf "loops" "loops" (defArgs s_loops) (defBody s_loops) (defScope s_loops) .none kV21 dc21 pm21 an21 cd21 ct21), sl21⟩)
    (c21 : PySem.W.codeIn K cd21 "loops" = true)
    (k21 : PySem.W.keepIn K (.ref f21) = true)
    (a22 : PySem.W.nsIn K mainGlobals "add_ways" = some (some (.ref f22)))
    (l22 : K.lookup f22 = some ⟨oc22, od22, .func (PySem.W.fnOf "add_ways" "add_ways" (defArgs s_add_ways) (defBody s_add_ways) (defScope s_add_ways) .none kV22 dc22 pm22 an22 cd22 ct22), sl22⟩)
    (c22 : PySem.W.codeIn K cd22 "add_ways" = true)
    (k22 : PySem.W.keepIn K (.ref f22) = true)
    (a23 : PySem.W.nsIn K mainGlobals "find_ways" = some (some (.ref f23)))
    (l23 : K.lookup f23 = some ⟨oc23, od23, .func (PySem.W.fnOf "find_ways" "find_ways" (defArgs s_find_ways) (defBody s_find_ways) (defScope s_find_ways) .none kV23 dc23 pm23 an23 cd23 ct23), sl23⟩)
    (c23 : PySem.W.codeIn K cd23 "find_ways" = true)
    (k23 : PySem.W.keepIn K (.ref f23) = true)
    (a24 : PySem.W.nsIn K mainGlobals "ways_to" = some (some (.ref f24)))
    (l24 : K.lookup f24 = some ⟨oc24, od24, .func (PySem.W.fnOf "ways_to" "ways_to" (defArgs s_ways_to) (defBody s_ways_to) (defScope s_ways_to) .none kV24 dc24 pm24 an24 cd24 ct24), sl24⟩)
    (c24 : PySem.W.codeIn K cd24 "ways_to" = true)
    (k24 : PySem.W.keepIn K (.ref f24) = true)
    (a25 : PySem.W.nsIn K mainGlobals "last_posting" = some (some (.ref f25)))
    (l25 : K.lookup f25 = some ⟨oc25, od25, .func (PySem.W.fnOf "last_posting" "last_posting" (defArgs s_last_posting) (defBody s_last_posting) (defScope s_last_posting) .none kV25 dc25 pm25 an25 cd25 ct25), sl25⟩)
    (c25 : PySem.W.codeIn K cd25 "last_posting" = true)
    (k25 : PySem.W.keepIn K (.ref f25) = true)
    (a26 : PySem.W.nsIn K mainGlobals "senders" = some (some (.ref f26)))
    (l26 : K.lookup f26 = some ⟨oc26, od26, .func (PySem.W.fnOf "senders" "senders" (defArgs s_senders) (defBody s_senders) (defScope s_senders) .none kV26 dc26 pm26 an26 cd26 ct26), sl26⟩)
    (c26 : PySem.W.codeIn K cd26 "senders" = true)
    (k26 : PySem.W.keepIn K (.ref f26) = true)
    (a27 : PySem.W.nsIn K mainGlobals "count_chasing" = some (some (.ref f27)))
    (l27 : K.lookup f27 = some ⟨oc27, od27, .func (PySem.W.fnOf "count_chasing" "count_chasing" (defArgs s_count_chasing) (defBody s_count_chasing) (defScope s_count_chasing) .none kV27 dc27 pm27 an27 cd27 ct27), sl27⟩)
    (c27 : PySem.W.codeIn K cd27 "count_chasing" = true)
    (k27 : PySem.W.keepIn K (.ref f27) = true)
    (a28 : PySem.W.nsIn K mainGlobals "without_order" = some (some (.ref f28)))
    (l28 : K.lookup f28 = some ⟨oc28, od28, .func (PySem.W.fnOf "without_order" "without_order" (defArgs s_without_order) (defBody s_without_order) (defScope s_without_order) .none kV28 dc28 pm28 an28 cd28 ct28), sl28⟩)
    (c28 : PySem.W.codeIn K cd28 "without_order" = true)
    (k28 : PySem.W.keepIn K (.ref f28) = true)
    (a29 : PySem.W.nsIn K mainGlobals "without" = some (some (.ref f29)))
    (l29 : K.lookup f29 = some ⟨oc29, od29, .func (PySem.W.fnOf "without" "without" (defArgs s_without) (defBody s_without) (defScope s_without) .none kV29 dc29 pm29 an29 cd29 ct29), sl29⟩)
    (c29 : PySem.W.codeIn K cd29 "without" = true)
    (k29 : PySem.W.keepIn K (.ref f29) = true)
    (a30 : PySem.W.nsIn K mainGlobals "harmful_orders" = some (some (.ref f30)))
    (l30 : K.lookup f30 = some ⟨oc30, od30, .func (PySem.W.fnOf "harmful_orders" "harmful_orders" (defArgs s_harmful_orders) (defBody s_harmful_orders) (defScope s_harmful_orders) .none kV30 dc30 pm30 an30 cd30 ct30), sl30⟩)
    (c30 : PySem.W.codeIn K cd30 "harmful_orders" = true)
    (k30 : PySem.W.keepIn K (.ref f30) = true)
    (a31 : PySem.W.nsIn K mainGlobals "list_plans" = some (some (.ref f31)))
    (l31 : K.lookup f31 = some ⟨oc31, od31, .func (PySem.W.fnOf "list_plans" "list_plans" (defArgs s_list_plans) (defBody s_list_plans) (defScope s_list_plans) .none kV31 dc31 pm31 an31 cd31 ct31), sl31⟩)
    (c31 : PySem.W.codeIn K cd31 "list_plans" = true)
    (k31 : PySem.W.keepIn K (.ref f31) = true)
    (a32 : PySem.W.nsIn K mainGlobals "may_prolong" = some (some (.ref f32)))
    (l32 : K.lookup f32 = some ⟨oc32, od32, .func (PySem.W.fnOf "may_prolong" "may_prolong" (defArgs s_may_prolong) (defBody s_may_prolong) (defScope s_may_prolong) .none kV32 dc32 pm32 an32 cd32 ct32), sl32⟩)
    (c32 : PySem.W.codeIn K cd32 "may_prolong" = true)
    (k32 : PySem.W.keepIn K (.ref f32) = true)
    (a33 : PySem.W.nsIn K mainGlobals "prolonged" = some (some (.ref f33)))
    (l33 : K.lookup f33 = some ⟨oc33, od33, .func (PySem.W.fnOf "prolonged" "prolonged" (defArgs s_prolonged) (defBody s_prolonged) (defScope s_prolonged) .none kV33 dc33 pm33 an33 cd33 ct33), sl33⟩)
    (c33 : PySem.W.codeIn K cd33 "prolonged" = true)
    (k33 : PySem.W.keepIn K (.ref f33) = true)
    (a34 : PySem.W.nsIn K mainGlobals "plan_days" = some (some (.ref f34)))
    (l34 : K.lookup f34 = some ⟨oc34, od34, .func (PySem.W.fnOf "plan_days" "plan_days" (defArgs s_plan_days) (defBody s_plan_days) (defScope s_plan_days) .none kV34 dc34 pm34 an34 cd34 ct34), sl34⟩)
    (c34 : PySem.W.codeIn K cd34 "plan_days" = true)
    (k34 : PySem.W.keepIn K (.ref f34) = true)
    (a35 : PySem.W.nsIn K mainGlobals "_law_shuffled" = some (some (.ref f35)))
    (l35 : K.lookup f35 = some ⟨oc35, od35, .func (PySem.W.fnOf "_law_shuffled" "_law_shuffled" (defArgs s_l_shuffled) (defBody s_l_shuffled) (defScope s_l_shuffled) .none kV35 dc35 pm35 an35 cd35 ct35), sl35⟩)
    (c35 : PySem.W.codeIn K cd35 "_law_shuffled" = true)
    (k35 : PySem.W.keepIn K (.ref f35) = true)
    (a36 : PySem.W.nsIn K mainGlobals "law" = some (some (.ref f36)))
    (l36 : K.lookup f36 = some ⟨oc36, od36, .func (PySem.W.fnOf "law" "law" (defArgs s_law) (defBody s_law) (defScope s_law) .none kV36 dc36 pm36 an36 cd36 ct36), sl36⟩)
    (c36 : PySem.W.codeIn K cd36 "law" = true)
    (k36 : PySem.W.keepIn K (.ref f36) = true)
    (a37 : PySem.W.findIn K (.ref C_Net) "__init__" = some (some (.ref f37)))
    (i37 : PySem.W.isFn K (.ref f37) = true)
    (l37 : K.lookup f37 = some ⟨oc37, od37, .func (PySem.W.fnOf "__init__" "Net.__init__" (defArgs s_Net_init) (defBody s_Net_init) (defScope s_Net_init) .none kV37 dc37 pm37 an37 cd37 ct37), sl37⟩)
    (c37 : PySem.W.codeIn K cd37 "Net.__init__" = true)
    (k37 : PySem.W.keepIn K (.ref f37) = true)
    (a38 : PySem.W.findIn K (.ref C_Net) "stop_after" = some (some (.ref f38)))
    (i38 : PySem.W.isFn K (.ref f38) = true)
    (l38 : K.lookup f38 = some ⟨oc38, od38, .func (PySem.W.fnOf "stop_after" "Net.stop_after" (defArgs s_Net_stop_after) (defBody s_Net_stop_after) (defScope s_Net_stop_after) .none kV38 dc38 pm38 an38 cd38 ct38), sl38⟩)
    (c38 : PySem.W.codeIn K cd38 "Net.stop_after" = true)
    (k38 : PySem.W.keepIn K (.ref f38) = true)
    (a39 : PySem.W.findIn K (.ref C_Net) "route" = some (some (.ref f39)))
    (i39 : PySem.W.isFn K (.ref f39) = true)
    (l39 : K.lookup f39 = some ⟨oc39, od39, .func (PySem.W.fnOf "route" "Net.route" (defArgs s_Net_route) (defBody s_Net_route) (defScope s_Net_route) .none kV39 dc39 pm39 an39 cd39 ct39), sl39⟩)
    (c39 : PySem.W.codeIn K cd39 "Net.route" = true)
    (k39 : PySem.W.keepIn K (.ref f39) = true)
    (a40 : PySem.W.findIn K (.ref C_Net) "idle_orders" = some (some (.ref p40)))
    (pg40 : PySem.W.specialIn K (.ref p40) "__get__" = some (some (.builtin "property.__get__")))
    (pt40 : PySem.W.takesIn K (.ref p40) = some true)
    (pc40 : PySem.W.recIn K p40 "property" = some (.ref f40 :: pr40))
    (l40 : K.lookup f40 = some ⟨oc40, od40, .func (PySem.W.fnOf "idle_orders" "Net.idle_orders" (defArgs s_Net_idle_orders) (defBody s_Net_idle_orders) (defScope s_Net_idle_orders) .none kV40 dc40 pm40 an40 cd40 ct40), sl40⟩)
    (c40 : PySem.W.codeIn K cd40 "Net.idle_orders" = true)
    (k40 : PySem.W.keepIn K (.ref f40) = true)
    (pgNet : PySem.W.plainGet K C_Net Str.empty = true)
    (hdNet : PySem.W.hasDictIn K C_Net = true)
    (poNet : PySem.W.plainOver K C_Net = true)
    (saNet : PySem.W.findIn K (.ref C_Net) "__setattr__" = some (some (.builtin "object.__setattr__")))
    (mkNet : PySem.W.makesIn K C_Net = true)
    (kcNet : PySem.W.keepIn K (.ref C_Net) = true)
    (nNet_period : PySem.W.findIn K (.ref C_Net) "period" = some none)
    (nNet_houses : PySem.W.findIn K (.ref C_Net) "houses" = some none)
    (nNet_orders : PySem.W.findIn K (.ref C_Net) "orders" = some none)
    (nNet_followed : PySem.W.findIn K (.ref C_Net) "followed" = some none)
    (vLAST_DAY : PySem.W.nsIn K mainGlobals "LAST_DAY" = some (some (.int 1000000000000000000 tkLAST_DAY)))
    (vLONGEST_PERIOD : PySem.W.nsIn K mainGlobals "LONGEST_PERIOD" = some (some (.int 30 tkLONGEST_PERIOD)))
    (vMOST_HOUSES : PySem.W.nsIn K mainGlobals "MOST_HOUSES" = some (some (.int 10 tkMOST_HOUSES)))
    (vMOST_ORDERS : PySem.W.nsIn K mainGlobals "MOST_ORDERS" = some (some (.int 20 tkMOST_ORDERS)))
    (vLONGEST_DELAY : PySem.W.nsIn K mainGlobals "LONGEST_DELAY" = some (some (.int 9 tkLONGEST_DELAY)))
    (vHIGHEST_LIMIT : PySem.W.nsIn K mainGlobals "HIGHEST_LIMIT" = some (some (.int 3 tkHIGHEST_LIMIT)))
    (zlen : PySem.W.nsIn K mainGlobals "len" = some none)
    (zrange : PySem.W.nsIn K mainGlobals "range" = some none)
    (zisinstance : PySem.W.nsIn K mainGlobals "isinstance" = some none)
    (zint : PySem.W.nsIn K mainGlobals "int" = some none)
    (zbool : PySem.W.nsIn K mainGlobals "bool" = some none)
    (zstr : PySem.W.nsIn K mainGlobals "str" = some none)
    (ztuple : PySem.W.nsIn K mainGlobals "tuple" = some none)
    (zlist : PySem.W.nsIn K mainGlobals "list" = some none)
    (zall : PySem.W.nsIn K mainGlobals "all" = some none)
    (zabs : PySem.W.nsIn K mainGlobals "abs" = some none)
    (zenumerate : PySem.W.nsIn K mainGlobals "enumerate" = some none)
    (zmax : PySem.W.nsIn K mainGlobals "max" = some none)
    (zmin : PySem.W.nsIn K mainGlobals "min" = some none)
    (zsorted : PySem.W.nsIn K mainGlobals "sorted" = some none)
    : ∃ fd : FuncData, (∀ (s : Shared) (v : Value), BindsTo s fd ⟨[v], []⟩ [("_law_script", v)]) ∧ ∀ base : Heap, K.In base → base.Ns mainGlobals mg → FnOk l.prog w K mg base CX0 10 fa fd ["_law_script"] (spLaw K) := by
  have e := hfa.symm.trans (PySem.W.mg_of X G a36)
  cases e
  have G_Net := PySem.W.mg_of X G aCNet
  have T_Net : NetT K C_Net := ⟨⟨pgNet, hdNet, poNet, saNet⟩, nNet_period, nNet_houses, nNet_orders, nNet_followed⟩
  have K_LAST_DAY : ∃ t, mg "LAST_DAY" = some (.int 1000000000000000000 t) := ⟨_, PySem.W.mg_of X G vLAST_DAY⟩
  have K_LONGEST_PERIOD : ∃ t, mg "LONGEST_PERIOD" = some (.int 30 t) := ⟨_, PySem.W.mg_of X G vLONGEST_PERIOD⟩
  have K_MOST_HOUSES : ∃ t, mg "MOST_HOUSES" = some (.int 10 t) := ⟨_, PySem.W.mg_of X G vMOST_HOUSES⟩
  have K_MOST_ORDERS : ∃ t, mg "MOST_ORDERS" = some (.int 20 t) := ⟨_, PySem.W.mg_of X G vMOST_ORDERS⟩
  have K_LONGEST_DELAY : ∃ t, mg "LONGEST_DELAY" = some (.int 9 t) := ⟨_, PySem.W.mg_of X G vLONGEST_DELAY⟩
  have K_HIGHEST_LIMIT : ∃ t, mg "HIGHEST_LIMIT" = some (.int 3 t) := ⟨_, PySem.W.mg_of X G vHIGHEST_LIMIT⟩
  have B : Blt mg := ⟨PySem.W.mg_none_of X G zlen, PySem.W.mg_none_of X G zrange, PySem.W.mg_none_of X G zisinstance, PySem.W.mg_none_of X G zint, PySem.W.mg_none_of X G zbool, PySem.W.mg_none_of X G zstr, PySem.W.mg_none_of X G ztuple, PySem.W.mg_none_of X G zlist, PySem.W.mg_none_of X G zall, PySem.W.mg_none_of X G zabs, PySem.W.mg_none_of X G zenumerate⟩
  have Z_max : mg "max" = none := PySem.W.mg_none_of X G zmax
  have Z_min : mg "min" = none := PySem.W.mg_none_of X G zmin
  have Z_sorted : mg "sorted" = none := PySem.W.mg_none_of X G zsorted
  have G_is_integer := PySem.W.mg_of X G a1
  have F_is_integer := fun_mk (st := s_is_integer) l1 c1 k1
  have B_is_integer := F_is_integer.binds (ps := P_is_integer) fun _ _ _ _ _ _ us hl => match us, hl with | [_], _ => rfl
  have G_is_within := PySem.W.mg_of X G a2
  have F_is_within := fun_mk (st := s_is_within) l2 c2 k2
  have B_is_within := F_is_within.binds (ps := P_is_within) fun _ _ _ _ _ _ us hl => match us, hl with | [_, _, _], _ => rfl
  have G_is_order := PySem.W.mg_of X G a3
  have F_is_order := fun_mk (st := s_is_order) l3 c3 k3
  have B_is_order := F_is_order.binds (ps := P_is_order) fun _ _ _ _ _ _ us hl => match us, hl with | [_, _, _], _ => rfl
  have G_check_orders := PySem.W.mg_of X G a4
  have F_check_orders := fun_mk (st := s_check_orders) l4 c4 k4
  have B_check_orders := F_check_orders.binds (ps := P_check_orders) fun _ _ _ _ _ _ us hl => match us, hl with | [_, _, _], _ => rfl
  have G_find_followed := PySem.W.mg_of X G a5
  have F_find_followed := fun_mk (st := s_find_followed) l5 c5 k5
  have B_find_followed := F_find_followed.binds (ps := P_find_followed) fun _ _ _ _ _ _ us hl => match us, hl with | [_, _, _], _ => rfl
  have G_check_house := PySem.W.mg_of X G a6
  have F_check_house := fun_mk (st := s_check_house) l6 c6 k6
  have B_check_house := F_check_house.binds (ps := P_check_house) fun _ _ _ _ _ _ us hl => match us, hl with | [_, _], _ => rfl
  have G_check_day := PySem.W.mg_of X G a7
  have F_check_day := fun_mk (st := s_check_day) l7 c7 k7
  have B_check_day := F_check_day.binds (ps := P_check_day) fun _ _ _ _ _ _ us hl => match us, hl with | [_], _ => rfl
  have G_check_letter := PySem.W.mg_of X G a8
  have F_check_letter := fun_mk (st := s_check_letter) l8 c8 k8
  have B_check_letter := F_check_letter.binds (ps := P_check_letter) fun _ _ _ _ _ _ us hl => match us, hl with | [_, _, _], _ => rfl
  have G_l_random := PySem.W.mg_of X G a9
  have F_l_random := fun_mk (st := s_l_random) l9 c9 k9
  have B_l_random := F_l_random.binds (ps := P_l_random) fun _ _ _ _ _ _ us hl => match us, hl with | [_, _], _ => rfl
  have G_l_below := PySem.W.mg_of X G a10
  have F_l_below := fun_mk (st := s_l_below) l10 c10 k10
  have B_l_below := F_l_below.binds (ps := P_l_below) fun _ _ _ _ _ _ us hl => match us, hl with | [_, _], _ => rfl
  have G_l_order := PySem.W.mg_of X G a11
  have F_l_order := fun_mk (st := s_l_order) l11 c11 k11
  have B_l_order := F_l_order.binds (ps := P_l_order) fun _ _ _ _ _ _ us hl => match us, hl with | [_, _, _], _ => rfl
  have G_l_parts := PySem.W.mg_of X G a12
  have F_l_parts := fun_mk (st := s_l_parts) l12 c12 k12
  have B_l_parts := F_l_parts.binds (ps := P_l_parts) fun _ _ _ _ _ _ us hl => match us, hl with | [_, _], _ => rfl
  have G_l_day := PySem.W.mg_of X G a13
  have F_l_day := fun_mk (st := s_l_day) l13 c13 k13
  have B_l_day := F_l_day.binds (ps := P_l_day) fun _ _ _ _ _ _ us hl => match us, hl with | [_], _ => rfl
  have G_follow := PySem.W.mg_of X G a14
  have F_follow := fun_mk (st := s_follow) l14 c14 k14
  have B_follow := F_follow.binds (ps := P_follow) fun _ _ _ _ _ _ us hl => match us, hl with | [_, _, _], _ => rfl
  have G_destination := PySem.W.mg_of X G a15
  have F_destination := fun_mk (st := s_destination) l15 c15 k15
  have B_destination := F_destination.binds (ps := P_destination) fun _ _ _ _ _ _ us hl => match us, hl with | [_, _, _], _ => rfl
  have G_day_sets := PySem.W.mg_of X G a16
  have F_day_sets := fun_mk (st := s_day_sets) l16 c16 k16
  have B_day_sets := F_day_sets.binds (ps := P_day_sets) fun _ _ _ _ _ _ us hl => match us, hl with | [_, _], _ => rfl
  have G_last_stop := PySem.W.mg_of X G a17
  have F_last_stop := fun_mk (st := s_last_stop) l17 c17 k17
  have B_last_stop := F_last_stop.binds (ps := P_last_stop) fun _ _ _ _ _ _ us hl => match us, hl with | [_, _, _, _], _ => rfl
  have G_count_hops := PySem.W.mg_of X G a18
  have F_count_hops := fun_mk (st := s_count_hops) l18 c18 k18
  have B_count_hops := F_count_hops.binds (ps := P_count_hops) fun _ _ _ _ _ _ us hl => match us, hl with | [_, _, _, _], _ => rfl
  have G_letters := PySem.W.mg_of X G a19
  have F_letters := fun_mk (st := s_letters) l19 c19 k19
  have B_letters := F_letters.binds (ps := P_letters) fun _ _ _ _ _ _ us hl => match us, hl with | [_], _ => rfl
  have G_day_stops := PySem.W.mg_of X G a20
  have F_day_stops := fun_mk (st := s_day_stops) l20 c20 k20
  have B_day_stops := F_day_stops.binds (ps := P_day_stops) fun _ _ _ _ _ _ us hl => match us, hl with | [_, _], _ => rfl
  have G_loops := PySem.W.mg_of X G a21
  have F_loops := fun_mk (st := s_loops) l21 c21 k21
  have B_loops := F_loops.binds (ps := P_loops) fun _ _ _ _ _ _ us hl => match us, hl with | [_], _ => rfl
  have G_add_ways := PySem.W.mg_of X G a22
  have F_add_ways := fun_mk (st := s_add_ways) l22 c22 k22
  have B_add_ways := F_add_ways.binds (ps := P_add_ways) fun _ _ _ _ _ _ us hl => match us, hl with | [_, _, _, _], _ => rfl
  have G_find_ways := PySem.W.mg_of X G a23
  have F_find_ways := fun_mk (st := s_find_ways) l23 c23 k23
  have B_find_ways := F_find_ways.binds (ps := P_find_ways) fun _ _ _ _ _ _ us hl => match us, hl with | [_], _ => rfl
  have G_ways_to := PySem.W.mg_of X G a24
  have F_ways_to := fun_mk (st := s_ways_to) l24 c24 k24
  have B_ways_to := F_ways_to.binds (ps := P_ways_to) fun _ _ _ _ _ _ us hl => match us, hl with | [_, _], _ => rfl
  have G_last_posting := PySem.W.mg_of X G a25
  have F_last_posting := fun_mk (st := s_last_posting) l25 c25 k25
  have B_last_posting := F_last_posting.binds (ps := P_last_posting) fun _ _ _ _ _ _ us hl => match us, hl with | [_, _, _, _], _ => rfl
  have G_senders := PySem.W.mg_of X G a26
  have F_senders := fun_mk (st := s_senders) l26 c26 k26
  have B_senders := F_senders.binds (ps := P_senders) fun _ _ _ _ _ _ us hl => match us, hl with | [_, _, _], _ => rfl
  have G_count_chasing := PySem.W.mg_of X G a27
  have F_count_chasing := fun_mk (st := s_count_chasing) l27 c27 k27
  have B_count_chasing := F_count_chasing.binds (ps := P_count_chasing) fun _ _ _ _ _ _ us hl => match us, hl with | [_], _ => rfl
  have G_without_order := PySem.W.mg_of X G a28
  have F_without_order := fun_mk (st := s_without_order) l28 c28 k28
  have B_without_order := F_without_order.binds (ps := P_without_order) fun _ _ _ _ _ _ us hl => match us, hl with | [_, _], _ => rfl
  have G_without := PySem.W.mg_of X G a29
  have F_without := fun_mk (st := s_without) l29 c29 k29
  have B_without := F_without.binds (ps := P_without) fun _ _ _ _ _ _ us hl => match us, hl with | [_, _], _ => rfl
  have G_harmful_orders := PySem.W.mg_of X G a30
  have F_harmful_orders := fun_mk (st := s_harmful_orders) l30 c30 k30
  have B_harmful_orders := F_harmful_orders.binds (ps := P_harmful_orders) fun _ _ _ _ _ _ us hl => match us, hl with | [_], _ => rfl
  have G_list_plans := PySem.W.mg_of X G a31
  have F_list_plans := fun_mk (st := s_list_plans) l31 c31 k31
  have B_list_plans := F_list_plans.binds (ps := P_list_plans) fun _ _ _ _ _ _ us hl => match us, hl with | [_, _], _ => rfl
  have G_may_prolong := PySem.W.mg_of X G a32
  have F_may_prolong := fun_mk (st := s_may_prolong) l32 c32 k32
  have B_may_prolong := F_may_prolong.binds (ps := P_may_prolong) fun _ _ _ _ _ _ us hl => match us, hl with | [_, _], _ => rfl
  have G_prolonged := PySem.W.mg_of X G a33
  have F_prolonged := fun_mk (st := s_prolonged) l33 c33 k33
  have B_prolonged := F_prolonged.binds (ps := P_prolonged) fun _ _ _ _ _ _ us hl => match us, hl with | [_, _], _ => rfl
  have G_plan_days := PySem.W.mg_of X G a34
  have F_plan_days := fun_mk (st := s_plan_days) l34 c34 k34
  have B_plan_days := F_plan_days.binds (ps := P_plan_days) fun _ _ _ _ _ _ us hl => match us, hl with | [_, _], _ => rfl
  have G_l_shuffled := PySem.W.mg_of X G a35
  have F_l_shuffled := fun_mk (st := s_l_shuffled) l35 c35 k35
  have B_l_shuffled := F_l_shuffled.binds (ps := P_l_shuffled) fun _ _ _ _ _ _ us hl => match us, hl with | [_, _], _ => rfl
  have G_law := PySem.W.mg_of X G a36
  have F_law := fun_mk (st := s_law) l36 c36 k36
  have B_law := F_law.binds (ps := P_law) fun _ _ _ _ _ _ us hl => match us, hl with | [_], _ => rfl
  have F_Net_init := fun_mk (st := s_Net_init) l37 c37 k37
  have B_Net_init := F_Net_init.binds (ps := P_Net_init) fun _ _ _ _ _ _ us hl => match us, hl with | [_, _, _, _], _ => rfl
  have M_Net_init : Mk K C_Net f37 := ⟨mkNet, a37, i37, kcNet⟩
  have F_Net_stop_after := fun_mk (st := s_Net_stop_after) l38 c38 k38
  have B_Net_stop_after := F_Net_stop_after.binds (ps := P_Net_stop_after) fun _ _ _ _ _ _ us hl => match us, hl with | [_, _, _], _ => rfl
  have M_Net_stop_after : Meth K C_Net "stop_after" f38 := ⟨a38, i38, k38⟩
  have F_Net_route := fun_mk (st := s_Net_route) l39 c39 k39
  have B_Net_route := F_Net_route.binds (ps := P_Net_route) fun _ _ _ _ _ _ us hl => match us, hl with | [_, _, _, _], _ => rfl
  have M_Net_route : Meth K C_Net "route" f39 := ⟨a39, i39, k39⟩
  have F_Net_idle_orders := fun_mk (st := s_Net_idle_orders) l40 c40 k40
  have B_Net_idle_orders := F_Net_idle_orders.binds (ps := P_Net_idle_orders) fun _ _ _ _ _ _ us hl => match us, hl with | [_], _ => rfl
  have M_Net_idle_orders : PropOf K C_Net "idle_orders" p40 f40 := ⟨a40, pg40, pt40, _, pc40⟩
  refine ⟨PySem.W.fnOf "law" "law" (defArgs s_law) (defBody s_law) (defScope s_law) .none kV36 dc36 pm36 an36 cd36 ct36, fun s v => .of_eq rfl, fun base _ _ => ?_⟩
  have D_isint : Df l.prog w K mg base "is_integer" 1 P_is_integer (spIsInt K) := ⟨_, _, G_is_integer, F_is_integer.kp, B_is_integer, ok_isint F_is_integer B⟩
  have D_within : Df l.prog w K mg base "is_within" 2 P_is_within (spWithin K) := ⟨_, _, G_is_within, F_is_within.kp, B_is_within, ok_within F_is_within D_isint⟩
  have D_order : Df l.prog w K mg base "is_order" 3 P_is_order (spIsOrder K) := ⟨_, _, G_is_order, F_is_order.kp, B_is_order, ok_is_order F_is_order B D_within K_LONGEST_DELAY⟩
  have D_chk : Df l.prog w K mg base "check_orders" 4 P_check_orders spChkOrders := ⟨_, _, G_check_orders, F_check_orders.kp, B_check_orders, ok_chk_orders F_check_orders B D_order K_MOST_ORDERS⟩
  have D_fol : Df l.prog w K mg base "find_followed" 2 P_find_followed spFollowed := ⟨_, _, G_find_followed, F_find_followed.kp, B_find_followed, ok_followed F_find_followed B⟩
  have D_house : Df l.prog w K mg base "check_house" 3 P_check_house (spHouse C_Net) := ⟨_, _, G_check_house, F_check_house.kp, B_check_house, ok_house F_check_house T_Net D_within⟩
  have D_day : Df l.prog w K mg base "check_day" 3 P_check_day spDay := ⟨_, _, G_check_day, F_check_day.kp, B_check_day, ok_day F_check_day D_within K_LAST_DAY⟩
  have D_let : Df l.prog w K mg base "check_letter" 4 P_check_letter (spLetter C_Net) := ⟨_, _, G_check_letter, F_check_letter.kp, B_check_letter, ok_letter F_check_letter D_house D_day⟩
  have D_rnd : Df l.prog w K mg base "_law_random" 2 P_l_random (spRandom K) := ⟨_, _, G_l_random, F_l_random.kp, B_l_random, ok_random F_l_random B⟩
  have D_bel : Df l.prog w K mg base "_law_below" 2 P_l_below spBelow := ⟨_, _, G_l_below, F_l_below.kp, B_l_below, ok_below F_l_below B.len⟩
  have D_ord : Df l.prog w K mg base "_law_order" 3 P_l_order spOrder := ⟨_, _, G_l_order, F_l_order.kp, B_l_order, ok_order F_l_order D_bel⟩
  have D_par : Df l.prog w K mg base "_law_parts" 4 P_l_parts spParts := ⟨_, _, G_l_parts, F_l_parts.kp, B_l_parts, ok_parts F_l_parts B D_bel D_ord⟩
  have O_init : FnOk l.prog w K mg base CX0 5 _ _ P_Net_init (spInit C_Net) := ok_init F_Net_init T_Net D_within D_chk D_fol K_LONGEST_PERIOD K_MOST_HOUSES
  have D_d0 : Df l.prog w K mg base "_law_day" 3 P_l_day spDay0 := ⟨_, _, G_l_day, F_l_day.kp, B_l_day, ok_day0 F_l_day D_bel⟩
  have O_stop : FnOk l.prog w K mg base CX0 2 _ _ P_Net_stop_after (spStop C_Net) := ok_stop_after F_Net_stop_after T_Net
  have O_rt : GFn l.prog w K mg base 5 _ _ P_Net_route (spRoute C_Net) := ok_route F_Net_route T_Net D_let O_stop M_Net_stop_after B_Net_stop_after
  have O_idle : FnOk l.prog w K mg base CX0 2 _ _ P_Net_idle_orders (spIdle C_Net) := ok_idle F_Net_idle_orders T_Net B
  have D_fl : Df l.prog w K mg base "follow" 7 P_follow (spFollow C_Net) := ⟨_, _, G_follow, F_follow.kp, B_follow, ok_follow F_follow B T_Net F_Net_route M_Net_route B_Net_route D_let O_stop M_Net_stop_after B_Net_stop_after⟩
  have D_de : Df l.prog w K mg base "destination" 8 P_destination (spDest C_Net) := ⟨_, _, G_destination, F_destination.kp, B_destination, ok_dest F_destination D_fl⟩
  have D_se : Df l.prog w K mg base "day_sets" 8 P_day_sets (spSets C_Net) := ⟨_, _, G_day_sets, F_day_sets.kp, B_day_sets, ok_sets F_day_sets B T_Net D_fl⟩
  have D_la : Df l.prog w K mg base "last_stop" 8 P_last_stop (spLast C_Net) := ⟨_, _, G_last_stop, F_last_stop.kp, B_last_stop, ok_last F_last_stop B D_fl⟩
  have D_co : Df l.prog w K mg base "count_hops" 9 P_count_hops (spCount C_Net) := ⟨_, _, G_count_hops, F_count_hops.kp, B_count_hops, ok_count F_count_hops T_Net D_let D_day D_la O_stop M_Net_stop_after B_Net_stop_after⟩
  have D_ls : Df l.prog w K mg base "letters" 2 P_letters (spLets C_Net) := ⟨_, _, G_letters, F_letters.kp, B_letters, ok_letters F_letters B T_Net⟩
  have D_ds : Df l.prog w K mg base "day_stops" 2 P_day_stops (spDst C_Net) := ⟨_, _, G_day_stops, F_day_stops.kp, B_day_stops, ok_dst F_day_stops T_Net⟩
  have D_lo : Df l.prog w K mg base "loops" 8 P_loops (spLoops C_Net) := ⟨_, _, G_loops, F_loops.kp, B_loops, ok_loops F_loops B Z_min D_ls D_fl D_ds⟩
  have D_aw : Df l.prog w K mg base "add_ways" 3 P_add_ways (spAddWays C_Net) := ⟨_, _, G_add_ways, F_add_ways.kp, B_add_ways, ok_add_ways F_add_ways T_Net O_stop M_Net_stop_after B_Net_stop_after⟩
  have D_fw : Df l.prog w K mg base "find_ways" 4 P_find_ways (spFindWays C_Net) := ⟨_, _, G_find_ways, F_find_ways.kp, B_find_ways, ok_find_ways F_find_ways D_ls D_aw⟩
  have D_wt : Df l.prog w K mg base "ways_to" 5 P_ways_to (spWaysTo C_Net) := ⟨_, _, G_ways_to, F_ways_to.kp, B_ways_to, ok_ways_to F_ways_to D_ls D_fw⟩
  have D_lp : Df l.prog w K mg base "last_posting" 6 P_last_posting (spLastPost C_Net) := ⟨_, _, G_last_posting, F_last_posting.kp, B_last_posting, ok_last_posting F_last_posting T_Net Z_max D_house D_let D_wt⟩
  have D_sd : Df l.prog w K mg base "senders" 6 P_senders (spSenders C_Net) := ⟨_, _, G_senders, F_senders.kp, B_senders, ok_senders F_senders T_Net Z_sorted D_let D_wt⟩
  have D_cc : Df l.prog w K mg base "count_chasing" 5 P_count_chasing (spChasing C_Net) := ⟨_, _, G_count_chasing, F_count_chasing.kp, B_count_chasing, ok_chasing F_count_chasing B D_fw⟩
  have D_wo : Df l.prog w K mg base "without_order" 1 P_without_order spWo := ⟨_, _, G_without_order, F_without_order.kp, B_without_order, ok_wo F_without_order⟩
  have D_wi : Df l.prog w K mg base "without" 7 P_without (spWithout C_Net) := ⟨_, _, G_without, F_without.kp, B_without, ok_without F_without T_Net M_Net_init G_Net O_init B_Net_init D_wo⟩
  have D_ha : Df l.prog w K mg base "harmful_orders" 8 P_harmful_orders (spHarm C_Net) := ⟨_, _, G_harmful_orders, F_harmful_orders.kp, B_harmful_orders, ok_harm F_harmful_orders B T_Net D_cc D_wi⟩
  have D_pl : Df l.prog w K mg base "list_plans" 1 P_list_plans spPlans := ⟨_, _, G_list_plans, F_list_plans.kp, B_list_plans, ok_plans F_list_plans B Z_max⟩
  have D_mp : Df l.prog w K mg base "may_prolong" 1 P_may_prolong (spMay C_Net) := ⟨_, _, G_may_prolong, F_may_prolong.kp, B_may_prolong, ok_may F_may_prolong B T_Net⟩
  have D_pr : Df l.prog w K mg base "prolonged" 7 P_prolonged (spProlonged C_Net) := ⟨_, _, G_prolonged, F_prolonged.kp, B_prolonged, ok_prolonged F_prolonged B T_Net M_Net_init G_Net O_init B_Net_init⟩
  have D_pd : Df l.prog w K mg base "plan_days" 8 P_plan_days (spPlanDays C_Net) := ⟨_, _, G_plan_days, F_plan_days.kp, B_plan_days, ok_plan_days F_plan_days B T_Net K_HIGHEST_LIMIT D_within D_pl D_mp D_cc D_pr⟩
  have D_sh : Df l.prog w K mg base "_law_shuffled" 3 P_l_shuffled spShufI := ⟨_, _, G_l_shuffled, F_l_shuffled.kp, B_l_shuffled, ok_shufI F_l_shuffled B D_bel⟩
  exact ok_law F_law B T_Net Z_min Z_sorted G_Net D_rnd D_bel D_par D_sh D_d0 D_let D_de D_co D_se D_lp D_sd D_ha D_lo D_pd M_Net_init O_init B_Net_init F_Net_route M_Net_route O_rt B_Net_route O_stop M_Net_stop_after B_Net_stop_after M_Net_idle_orders O_idle B_Net_idle_orders
end Cp
open PySem PySem.W PyProof.Rows
set_option maxRecDepth 100000 in
set_option maxHeartbeats 0 in
theorem PySem.Challenge.cw_chasepost_k38_whole_other_numbers_of_hou_holds : PySem.Challenge.rw_chasepost_k38_whole_other_numbers_of_hou.Holds := by
  w_on; o_law; k_head; (case hw => w_witness2)
  k_fill
  refine L2.walk_of (l := PySem.Challenge.rw_chasepost_k38_whole_other_numbers_of_hou) (n := 63) (k := 10) (x := "_law_script") (CX := fun _ => L2.CX0) (sp := fun w => Cp.spLaw _) rfl (by decide) rfl ⟨rfl, by decide, by decide⟩ (fun w h Y => PySem.W.kIn_of Y) ?F (fun _ _ a ns hl _ hS => ⟨a, ns, rfl, hS, hl, fun _ => rfl⟩) (fun _ _ _ _ _ h => h)
  case F =>
    intro w mg fa h KX G hmg
    refine' Cp.all_mk KX G hmg ?aCNet ?a1 ?l1 ?c1 ?k1 ?a2 ?l2 ?c2 ?k2 ?a3 ?l3 ?c3 ?k3 ?a4 ?l4 ?c4 ?k4 ?a5 ?l5 ?c5 ?k5 ?a6 ?l6 ?c6 ?k6 ?a7 ?l7 ?c7 ?k7 ?a8 ?l8 ?c8 ?k8 ?a9 ?l9 ?c9 ?k9 ?a10 ?l10 ?c10 ?k10 ?a11 ?l11 ?c11 ?k11 ?a12 ?l12 ?c12 ?k12 ?a13 ?l13 ?c13 ?k13 ?a14 ?l14 ?c14 ?k14 ?a15 ?l15 ?c15 ?k15 ?a16 ?l16 ?c16 ?k16 ?a17 ?l17 ?c17 ?k17 ?a18 ?l18 ?c18 ?k18 ?a19 ?l19 ?c19 ?k19 ?a20 ?l20 ?c20 ?k20 ?a21 ?l21 ?c21 ?k21 ?a22 ?l22 ?c22 ?k22 ?a23 ?l23 ?c23 ?k23 ?a24 ?l24 ?c24 ?k24 ?a25 ?l25 ?c25 ?k25 ?a26 ?l26 ?c26 ?k26 ?a27 ?l27 ?c27 ?k27 ?a28 ?l28 ?c28 ?k28 ?a29 ?l29 ?c29 ?k29 ?a30 ?l30 ?c30 ?k30 ?a31 ?l31 ?c31 ?k31 ?a32 ?l32 ?c32 ?k32 ?a33 ?l33 ?c33 ?k33 ?a34 ?l34 ?c34 ?k34 ?a35 ?l35 ?c35 ?k35 ?a36 ?l36 ?c36 ?k36 ?a37 ?i37 ?l37 ?c37 ?k37 ?a38 ?i38 ?l38 ?c38 ?k38 ?a39 ?i39 ?l39 ?c39 ?k39 ?a40 ?pg40 ?pt40 ?pc40 ?l40 ?c40 ?k40 ?pgNet ?hdNet ?poNet ?saNet ?mkNet ?kcNet ?nNet_period ?nNet_houses ?nNet_orders ?nNet_followed ?vLAST_DAY ?vLONGEST_PERIOD ?vMOST_HOUSES ?vMOST_ORDERS ?vLONGEST_DELAY ?vHIGHEST_LIMIT ?zlen ?zrange ?zisinstance ?zint ?zbool ?zstr ?ztuple ?zlist ?zall ?zabs ?zenumerate ?zmax ?zmin ?zsorted
    (case aCNet => k_is)
    (case a1 => k_is)
    (case l1 => k_is)
    (case c1 => k_is)
    (case k1 => k_is)
    (case a2 => k_is)
    (case l2 => k_is)
    (case c2 => k_is)
    (case k2 => k_is)
    (case a3 => k_is)
    (case l3 => k_is)
    (case c3 => k_is)
    (case k3 => k_is)
    (case a4 => k_is)
    (case l4 => k_is)
    (case c4 => k_is)
    (case k4 => k_is)
    (case a5 => k_is)
    (case l5 => k_is)
    (case c5 => k_is)
    (case k5 => k_is)
    (case a6 => k_is)
    (case l6 => k_is)
    (case c6 => k_is)
    (case k6 => k_is)
    (case a7 => k_is)
    (case l7 => k_is)
    (case c7 => k_is)
    (case k7 => k_is)
    (case a8 => k_is)
    (case l8 => k_is)
    (case c8 => k_is)
    (case k8 => k_is)
    (case a9 => k_is)
    (case l9 => k_is)
    (case c9 => k_is)
    (case k9 => k_is)
    (case a10 => k_is)
    (case l10 => k_is)
    (case c10 => k_is)
    (case k10 => k_is)
    (case a11 => k_is)
    (case l11 => k_is)
    (case c11 => k_is)
    (case k11 => k_is)
    (case a12 => k_is)
    (case l12 => k_is)
    (case c12 => k_is)
    (case k12 => k_is)
    (case a13 => k_is)
    (case l13 => k_is)
    (case c13 => k_is)
    (case k13 => k_is)
    (case a14 => k_is)
    (case l14 => k_is)
    (case c14 => k_is)
    (case k14 => k_is)
    (case a15 => k_is)
    (case l15 => k_is)
    (case c15 => k_is)
    (case k15 => k_is)
    (case a16 => k_is)
    (case l16 => k_is)
    (case c16 => k_is)
    (case k16 => k_is)
    (case a17 => k_is)
    (case l17 => k_is)
    (case c17 => k_is)
    (case k17 => k_is)
    (case a18 => k_is)
    (case l18 => k_is)
    (case c18 => k_is)
    (case k18 => k_is)
    (case a19 => k_is)
    (case l19 => k_is)
    (case c19 => k_is)
    (case k19 => k_is)
    (case a20 => k_is)
    (case l20 => k_is)
    (case c20 => k_is)
    (case k20 => k_is)
    (case a21 => k_is)
    (case l21 => k_is)
    (case c21 => k_is)
    (case k21 => k_is)
    (case a22 => k_is)
    (case l22 => k_is)
    (case c22 => k_is)
    (case k22 => k_is)
    (case a23 => k_is)
    (case l23 => k_is)
    (case c23 => k_is)
    (case k23 => k_is)
    (case a24 => k_is)
    (case l24 => k_is)
    (case c24 => k_is)
    (case k24 => k_is)
    (case a25 => k_is)
    (case l25 => k_is)
    (case c25 => k_is)
    (case k25 => k_is)
    (case a26 => k_is)
    (case l26 => k_is)
    (case c26 => k_is)
    (case k26 => k_is)
    (case a27 => k_is)
    (case l27 => k_is)
    (case c27 => k_is)
    (case k27 => k_is)
    (case a28 => k_is)
    (case l28 => k_is)
    (case c28 => k_is)
    (case k28 => k_is)
    (case a29 => k_is)
    (case l29 => k_is)
    (case c29 => k_is)
    (case k29 => k_is)
    (case a30 => k_is)
    (case l30 => k_is)
    (case c30 => k_is)
    (case k30 => k_is)
    (case a31 => k_is)
    (case l31 => k_is)
    (case c31 => k_is)
    (case k31 => k_is)
    (case a32 => k_is)
    (case l32 => k_is)
    (case c32 => k_is)
    (case k32 => k_is)
    (case a33 => k_is)
    (case l33 => k_is)
    (case c33 => k_is)
    (case k33 => k_is)
    (case a34 => k_is)
    (case l34 => k_is)
    (case c34 => k_is)
    (case k34 => k_is)
    (case a35 => k_is)
    (case l35 => k_is)
    (case c35 => k_is)
    (case k35 => k_is)
    (case a36 => k_is)
    (case l36 => k_is)
    (case c36 => k_is)
    (case k36 => k_is)
    (case a37 => k_is)
    (case i37 => k_is)
    (case l37 => k_is)
    (case c37 => k_is)
    (case k37 => k_is)
    (case a38 => k_is)
    (case i38 => k_is)
    (case l38 => k_is)
    (case c38 => k_is)
    (case k38 => k_is)
    (case a39 => k_is)
    (case i39 => k_is)
    (case l39 => k_is)
    (case c39 => k_is)
    (case k39 => k_is)
    (case a40 => k_is)
    (case pg40 => k_is)
    (case pt40 => k_is)
    (case pc40 => k_is)
    (case l40 => k_is)
    (case c40 => k_is)
    (case k40 => k_is)
    (case pgNet => k_is)
    (case hdNet => k_is)
    (case poNet => k_is)
    (case saNet => k_is)
    (case mkNet => k_is)
    (case kcNet => k_is)
    (case nNet_period => k_is)
    (case nNet_houses => k_is)
    (case nNet_orders => k_is)
    (case nNet_followed => k_is)
    (case vLAST_DAY => k_is)
    (case vLONGEST_PERIOD => k_is)
    (case vMOST_HOUSES => k_is)
    (case vMOST_ORDERS => k_is)
    (case vLONGEST_DELAY => k_is)
    (case vHIGHEST_LIMIT => k_is)
    (case zlen => k_is)
    (case zrange => k_is)
    (case zisinstance => k_is)
    (case zint => k_is)
    (case zbool => k_is)
    (case zstr => k_is)
    (case ztuple => k_is)
    (case zlist => k_is)
    (case zall => k_is)
    (case zabs => k_is)
    (case zenumerate => k_is)
    (case zmax => k_is)
    (case zmin => k_is)
    (case zsorted => k_is)
