import PyProof.Rows.All
import Wide.All
import OpenK.AllK
import Wide.FinOn
import HandS.ForMost
import HandS.IsInst
import HandS.Property
import HandS.Codes
import HandS.Style
import HandS.WordsExc
import KE.KEqSeq
import HandS.Deep
import HandS.GenList
import HandS.GenYield
import KE.GoesMore
import PyProof.Draws
import KE.SortData
import KE.KUnpackStar
import HandS.CallLocal
import KE.KAssignIn
import KE.GoesEnumKw
import HandS.ClsMeth
import HandS.FStr
import HandS.StrMore
import KE.DataFind
import HandS.Conv
import HandS.SortInts
import KE.DataMinMax
import HandS.SortKw
import HandS.DictTup
import KE.KExcSuper
import HandS.ExcInit
import HandS.ExcField
import KE.KExcIs
import KE.KDictCopyH
import HandS.TupAny
import HandS.TupMul
import HandS.Wide
import HandS.Star
import HandS.NoneIn
import KE.KRevSl
import HandS.Lambda
import HandS.ExcIs
import HandS.TryOnly
import HandS.EndOwn
import KE.KNestM
import HandS.TupLen
import HandS.TupSets
import PySem.Challenge.RW_chasepost_k22_batches_of_operations
import HandS.ExcCtx
import HandS.Hot
import HandS.HotCalls
import KE.KExcRaise
import HandS.SuiteRaise
set_option Elab.async false
set_option linter.all false
set_option maxRecDepth 100000
namespace Cp
open PySem L2
def top (i : Nat) : Stmt := PySem.Challenge.pw_chasepost_k22_batches_of_operations.main.body.getD i (.Pass ⟨0, 0, 0, 0⟩)
/-! ### enumerate over a tuple: a walk for a for (the library's own serves lists) -/
section
open PyProof.Rows
open PySem.AutoSeq1 (wpAny_loadPart')
/-- what enumerate makes of a tuple: its iterator, then the enumerate object -/
abbrev enumHeap (g : Heap) (t : Addr) : Heap :=
  (g.push { cls := .type "tuple_iterator", data := .fields #[.ref t, .int 0 0] }).push { cls := .type "enumerate", data := .fields #[.none, .bool false, .ref g.objs.size, rawInt 0, .none, .none] }
theorem enumT_meets (t : Addr) (xs : Array Value) (k : Nat) (dd : Option Addr) (sv : Array (Option Value)) :
    Meets (Builtin.«enumerate.__new__» ⟨[.type "enumerate", .ref t], []⟩) (fun _ R s => s.heap.get? t = some { cls := .type "tuple", dict := dd, data := .seq xs k, slots := sv } ∧
      R (.ok (.ret (.ref (s.heap.objs.size + 1)))) { s with heap := enumHeap s.heap t }) :=
  .of_wp fun P1 w1 A1 R1 s1 h1 => by
    obtain ⟨hp, gg, dr, tks, oo⟩ := s1
    obtain ⟨ht, hR⟩ := h1
    have hz : (hp.push { cls := .type "tuple_iterator", data := .fields #[.ref t, .int 0 0] }).objs.size = hp.objs.size + 1 := Heap.size_push ..
    have subE := sub_enumerate
    have isT : Heap.IsTuple (Shared.heap ⟨hp, gg, dr, tks, oo⟩) t xs := ⟨_, ht, rfl, k, rfl⟩
    replace hR : R1 (.ok (.ret (.ref (hp.push { cls := .type "tuple_iterator", data := .fields #[.ref t, .int 0 0] }).objs.size))) ⟨enumHeap hp t, gg, dr, tks, oo⟩ := by rw [hz]; exact hR
    wp_walk using wpAny_loadPart' ht
    refine wpAny_stack_any fun stk => wpAny_pure ?_
    split
    · rename_i cc _ _ _ _ _
      cases (cc == Value.type "enumerate")
      · wp_walk using wpAny_loadPart' ht, wpAny_pyIter_tuple isT
        exact ⟨_, rfl, hR⟩
      · wp_walk using wpAny_loadPart' ht, wpAny_pyIter_tuple isT
        exact ⟨_, rfl, hR⟩
    · wp_walk using wpAny_loadPart' ht, wpAny_pyIter_tuple isT
      exact ⟨_, rfl, hR⟩
theorem enumT_call {P : Program} {w : World} {A : Around} {E : Value → Shared → Prop} {s : Shared} {t : Addr} {xs : Array Value} {Q : Value → Shared → Prop} (hT : s.heap.IsTuple t xs)
    (h : ∀ h', IsEnum h' (s.heap.objs.size + 1) s.heap.objs.size 0 .none → h'.IsTupleIter s.heap.objs.size t 0 → (∀ b o, s.heap.get? b = some o → h'.get? b = some o) → Q (.ref (s.heap.objs.size + 1)) { s with heap := h' }) :
    wpAny (model P w) A (call (.type "enumerate") [.ref t]) Q E s := by
  obtain ⟨⟨cv, dd, dv, sv⟩, ht, hc, k, hd⟩ := hT
  obtain rfl : cv = .type "tuple" := hc
  obtain rfl : dv = .seq xs k := hd
  refine callType_new F.called_enumerate (by decide) (F.typeCall_enumerate_1 _) (F.newCall_enumerate_1 _) (fun ob => F.args_object_init_2 ob _) F.entry_enumerate_new (enumT_meets t xs k dd sv) ⟨ht, ?_⟩
  have hz : (s.heap.push { cls := .type "tuple_iterator", data := .fields #[.ref t, .int 0 0] }).objs.size = s.heap.objs.size + 1 := Heap.size_push ..
  have q1 : IsEnum (enumHeap s.heap t) (s.heap.objs.size + 1) s.heap.objs.size 0 .none := by
    have q := Heap.get?_push_size (s.heap.push { cls := .type "tuple_iterator", data := .fields #[.ref t, .int 0 0] }) (o := { cls := .type "enumerate", data := .fields #[.none, .bool false, .ref s.heap.objs.size, rawInt 0, .none, .none] }) rfl
    rw [hz] at q
    exact q
  exact ⟨⟨_, q1, rfl⟩, h _ q1 ⟨_, Heap.get?_push_of_some _ (Heap.get?_push_size _ rfl), rfl, rfl⟩ fun b o x => Heap.get?_push_of_some _ (Heap.get?_push_of_some _ x)⟩
/-- the tuple at a as it stands, each item in a new pair with its number -/
def IteT (K : PySem.W.Frag) (a : Addr) : It :=
  ⟨fun i H => ∃ (xs : List V) (x : V), SqT K H a xs ∧ xs[i]? = some x, fun i H v H' => ∃ T x, v = .ref T ∧ H T = none ∧ H' = upd H T (.tup [.int (i : Nat), x]) ∧ ∀ xs, SqT K H a xs → xs[i]? = some x, fun i H => ∃ xs : List V, SqT K H a xs ∧ xs.length ≤ i⟩
theorem enumT_turn {P : Program} {w : World} {K : PySem.W.Frag} {elts : List Expr} {kk : Nat} {tpos : Pos} (a e it : Addr) (hai : a ≠ it) (hae : a ≠ e) :
    Turn P w K (.Tuple elts kk tpos) (IteT K a) [e, it] e (fun i h => (∃ old, IsEnum h e it ((i : Nat) : Int) old) ∧ h.IsTupleIter it a i ∧ e ≠ it) where
  mem := List.mem_cons_self
  obj := fun i h st b hb => by
    obtain ⟨⟨old, q1⟩, ⟨o, q2, _, q3⟩, _⟩ := st
    rcases List.mem_cons.mp hb with z | z
    · rw [z]
      exact ⟨_, q1, fun v q => nomatch q⟩
    · rw [List.mem_singleton.mp z]
      exact ⟨o, q2, fun v q => by rw [q3] at q; cases q⟩
  keep := fun i h h' st k => by
    obtain ⟨⟨old, q1⟩, ⟨o, q2, r⟩, q4⟩ := st
    exact ⟨⟨old, k e List.mem_cons_self _ q1⟩, ⟨o, k it (by simp) o q2, r⟩, q4⟩
  item := by
    rintro X rfl rfl rfl hc i pins s σ H E I hf ⟨⟨old, q1⟩, q2, q3⟩ ⟨xs, x, hq, hx⟩
    obtain ⟨its, rv, p, hz⟩ := I.tuple hq
    obtain ⟨u, hu, ru⟩ := rv.get hx
    have hel : e < s.heap.objs.size := Heap.lt_size q1
    have hil : it < s.heap.objs.size := by
      obtain ⟨_, q, _⟩ := q2
      exact Heap.lt_size q
    have tup : s.heap.IsTuple a its.toArray := p
    have hlt : i < its.toArray.size := by
      have z := (List.getElem?_eq_some_iff.mp hu).1
      simpa using z
    have D : Draws X.prog X.w X.A.in1 it [it, a] its.toArray.size (fun i v => its.toArray[i]? = some v) (fun i h => h.IsTupleIter it a i ∧ h.IsTuple a its.toArray) := Draws.tuple (by exact I.ok.hd hc) it a hai its.toArray
    refine wpAny_pyNext_enum_itemD D q1 ⟨q2, tup⟩ hlt q3 (by simp [q3, hae.symm]) fun y h' tk hP ho st' hT hsz hk => ?_
    obtain rfl : y = u := by
      have z : its.toArray[i]? = some u := by simpa using hu
      exact Option.some.inj (hP.symm.trans z)
    refine ⟨_, rfl, wpAny_letOwnedTupleGo_enum (s := { s with heap := h', toks := tk + 1 }) ho fun h2 q5 sb => ?_⟩
    have hT2 : h2.get? s.heap.objs.size = some { cls := .type "tuple", data := .seq #[.int i tk, y] } := (sb.2 _ (Nat.ne_of_gt hel)).trans hT
    have new : ObjOk X.prog X.w (upd H s.heap.objs.size (.tup [.int (i : Nat), x])) h2 s.heap.objs.size (.tup [.int (i : Nat), x]) :=
      ⟨by show 2 ≤ sizeLine; decide, [.int i tk, y], .cons ⟨_, rfl⟩ (.cons ru .nil), ⟨_, hT2, rfl, _, rfl⟩⟩
    have I2 : Inv X pins σ (upd H s.heap.objs.size (.tup [.int (i : Nat), x])) { s with heap := h2, toks := tk + 1 } :=
      I.turnedNew (ch := [e, it]) (fun b ob hb q => (sb.2 b (fun z => hb (by simp [z]))).trans (hk b ob (fun z => hb (by simp [z])) (fun z => hb (by simp [z])) q)) hf (Nat.le_refl _) new
    refine ⟨.ref s.heap.objs.size, _, I2, rfl, ⟨_, x, rfl, I.hok.fresh (Nat.le_refl _), rfl, fun ys hy => by rw [I.tuple_inj hy hq]; exact hx⟩, ⟨⟨y, ?_⟩, ?_, q3⟩, fun b hb => ?_⟩
    · rw [show ((i + 1 : Nat) : Int) = (i : Int) + 1 by omega]
      exact q5
    · obtain ⟨o, z, r⟩ := st'.1
      exact ⟨o, (sb.2 it (Ne.symm q3)).trans z, r⟩
    · have hb2 : b < s.heap.objs.size := by
        rcases List.mem_cons.mp hb with z | z
        · rw [z]; exact hel
        · rw [List.mem_singleton.mp z]; exact hil
      rw [upd_ne (Nat.ne_of_lt hb2)]
      exact (hf b hb).1
  done := by
    rintro X rfl rfl rfl hc i pins s σ H E I hf ⟨⟨old, q1⟩, q2, q3⟩ ⟨xs, hq, hx⟩
    obtain ⟨its, rv, p, hz⟩ := I.tuple hq
    obtain ⟨f0, f1, f2, f3, f4, f5⟩ := hf it (by simp)
    have hl := rv.length
    have tup : s.heap.IsTuple a its.toArray := p
    have hT : s.TypeIs (.ref e) "enumerate" := ⟨_, q1, rfl⟩
    unfold pyNext
    refine wpAny_bind (wpAny_attempt (wpAny_callSpecial?_slot (name := Str.ofString "__next__") hT F.slot_enumerate_next (wpAny_call_entry F.slot_enumerate_next hT F.entry_enumerate_next ?_ (F.args_enumerate_next_1 _))))
    show wpAny _ _ (field (.ref e) 2 >>= _) _ _ _
    refine wpAny_bind (wpAny_field q1 rfl (x := .ref it) rfl ?_)
    refine wpAny_bind (wpAny_nextOf_tuple_end (by exact I.ok.hd hc) q2 tup (by simp; omega) fun h' x eb hx' => ?_)
    obtain ⟨o, ho, hc'⟩ := hx'
    refine wpAny_bind (wpAny_isInstance (T := "StopIteration") (b := true) ⟨o, ho, hc'⟩ isSubtype_stop ?_)
    exact wpAny_pure ⟨rfl, I.turned (t' := s.toks) (fun b o hb q => eb b o hb q) f0 f1 f3 f4 f5⟩
  self := fun A i s Q E st h => wpAny_pyIter_enum st.1.choose_spec h
def iEnumT (K : PySem.W.Frag) (ta : TA) : TI := fun σ H R => ta σ H fun vs H1 => ∃ a xs, vs = [.ref a] ∧ H1 a = some (.tup xs) ∧ R (IteT K a) H1
theorem pi_enumT {X : Cx} {e : Expr} {ta : TA} {p pos tpos : Pos} {elts : List Expr} {kk : Nat} (hg : Gl X "enumerate") (hm : X.mg "enumerate" = none) (ha : PA X [e] ta) (hs : starEach [e] X.env = [(false, eval e X.env)] := by rfl) :
    PI X (.Tuple elts kk tpos) (.Call (.Name "enumerate" p) [e] [] pos) (iEnumT X.K ta) := by
  refine ⟨fun pins s σ H R I h => ?_⟩
  refine Call_ (ld_blt I hg hm boot_enumerate (PyProof.Rows.callWith_type1 (thn (ha.run pos pins s σ H _ I h) fun us s1 ⟨vs, H1, I1, r1, q1⟩ => ?_) hs rfl))
  obtain ⟨a, xs, rfl, hq, q⟩ := q1
  cases r1 with
  | cons r rr =>
    cases rr
    cases r
    obtain ⟨its, rv, p2, hz⟩ := I1.tuple (.inl (.inl hq))
    have tup : s1.heap.IsTuple a its.toArray := p2
    have hal : a < s1.heap.objs.size := p2.lt
    refine enumT_call tup fun h' q1 q2 hk => wpAny_pyIter_enum q1 ?_
    have I2 : Inv X pins σ H1 { s1 with heap := h' } := I1.kept (t' := s1.toks) hk
    refine ⟨s1.heap.objs.size + 1, [s1.heap.objs.size + 1, s1.heap.objs.size], _, _, H1, rfl, I2, enumT_turn a (s1.heap.objs.size + 1) s1.heap.objs.size (Nat.ne_of_lt hal) (Nat.ne_of_lt (Nat.lt_succ_of_lt hal)), ⟨⟨.none, q1⟩, q2, Nat.succ_ne_self _⟩, fun b hb => ?_, q⟩
    have hle : s1.heap.objs.size ≤ b := by
      rcases List.mem_cons.mp hb with z | z
      · rw [z]; exact Nat.le_add_right _ _
      · rw [List.mem_singleton.mp z]; exact Nat.le_refl _
    exact I1.fpOk hle (I1.hok.fresh hle)
end
/-! ### min and sorted of data, nested to any depth -/
section
open PySem.Spec PyProof.Rows
open PySem.W (alike alikeAll dataLt minD AlikeAll AllAlike Sortable EachIs sorted_data min_list_data readsAll_atA alike_unique dataLe)
/-- min(xs), xs a list of data that are alike -/
def rMinD (K : PySem.W.Frag) : List V → Hp → VK → Prop := fun vs H Q => ∃ (a : Addr) (xs : List V) (d : PyData) (ds : List PyData), vs = [V.ref a] ∧ SqL K H a xs ∧ DpAll K H xs (d :: ds) ∧ AlikeAll (d :: ds) ∧ PyData.depthAll (d :: ds) ≤ 60 ∧
  ∀ (i : Nat) x, xs[i]? = some x → (d :: ds)[i]? = some (minD d ds) → Q x H
theorem minD_mem : ∀ (ds : List PyData) (d : PyData), minD d ds ∈ d :: ds
  | [], d => List.mem_cons_self
  | e :: r, d => by
    show minD (if dataLt e d = true then e else d) r ∈ _
    have h := minD_mem r (if dataLt e d = true then e else d)
    rcases List.mem_cons.mp h with z | z
    · rw [z]
      split <;> simp
    · exact List.mem_cons_of_mem _ (List.mem_cons_of_mem _ z)
theorem cr_minD {X : Cx} (hc : X.calm = true) (hu : X.A.units + 65 < cLine) : CallR X (.builtin "min") (rMinD X.K) := by
  intro pins s σ H vs us Q I r h
  obtain ⟨a, xs, d, ds, rfl, hs, hd, ha, hdp, q⟩ := h
  obtain ⟨its, rv, hl, _⟩ := I.list hs
  rw [Vals.ref1 r]
  obtain ⟨as, hr⟩ := Dp.readsAll I (d :: ds) xs its hd rv
  refine min_list_data (I.ok.hd hc) hl.isList hr ha (by omega) fun i v h' tk bs hi rd hk => ?_
  have hi2 : its[i]? = some v := by simpa using hi
  have hil : i < xs.length := by
    rw [rv.length]
    exact (List.getElem?_eq_some_iff.mp hi2).1
  obtain ⟨u, hu2, ru⟩ := rv.get (List.getElem?_eq_getElem hil)
  obtain rfl : u = v := Option.some.inj (hu2.symm.trans hi2)
  obtain ⟨cs, rc, lt, mem, _⟩ := readsAll_atA hr i u hi
  have rd' := Reads.keeps hk rc
  have e : (d :: ds).getD i .none = minD d ds := alike_unique _ _ _ _ _ (ha.1 _ mem _ (minD_mem ds d)) rd' rd
  refine ⟨_, H, I.kept (t' := tk) hk, ru, q i _ (List.getElem?_eq_getElem hil) ?_⟩
  rw [← e, List.getD_eq_getElem?_getD, List.getElem?_eq_getElem lt]
  rfl
/-- sorted(xs), xs a list of data that are alike: a new list; R: what is known of each item -/
def rSortedD {β : Type} (enc : β → PyData) (K : PySem.W.Frag) : List V → Hp → VK → Prop := fun vs H Q => ∃ (a : Addr) (xs : List V) (bs : List β) (R : V → β → Prop), vs = [V.ref a] ∧ SqL K H a xs ∧ Paired R xs bs ∧ DpAll K H xs (bs.map enc) ∧ AllAlike (bs.map enc) ∧ Sortable (bs.map enc) ∧ (∀ b ∈ bs, (enc b).depth ≤ 60) ∧
  ∀ ys p, Paired R ys (bs.mergeSort (dataLe false enc)) → H p = none → Q (.ref p) (L2.upd H p (.lst ys))
theorem each_pairs {β : Type} {R : Value → β → Prop} {F : V → β → Prop} (h : ∀ v b, R v b → ∃ x, RelV x v ∧ F x b) : ∀ {out : List Value} {bs : List β}, EachIs R out bs → ∃ ys, Vals ys out ∧ Paired F ys bs
  | _, _, .nil => ⟨[], .nil, .nil⟩
  | _, _, .cons r t => by
    obtain ⟨ys, h1, h2⟩ := each_pairs h t
    obtain ⟨x, h3, h4⟩ := h _ _ r
    exact ⟨x :: ys, .cons h3 h1, .cons h4 h2⟩
theorem each_of {β : Type} {K : PySem.W.Frag} {H : Hp} {enc : β → PyData} {R : V → β → Prop} {R' : Value → β → Prop} : ∀ {xs : List V} {us : List Value} {bs : List β}, Vals xs us → Paired R xs bs → DpAll K H xs (bs.map enc) → (∀ x u b, RelV x u → R x b → Dp K H x (enc b) → R' u b) → EachIs R' us bs
  | _, _, [], rv, hr, hd, _ => by
    cases hd
    cases rv
    exact .nil
  | _, _, b :: bs, rv, hr, hd, h => by
    cases hd with
    | cons q t =>
      cases rv with
      | cons r rt =>
        cases hr with
        | cons p pt => exact .cons (h _ _ _ r p q) (each_of rt pt t h)
theorem cr_sortedD {β : Type} {X : Cx} (enc : β → PyData) (hu : X.A.units + 65 < cLine) : CallR X (.builtin "sorted") (rSortedD enc X.K) := by
  intro pins s σ H vs us Q I r h
  obtain ⟨a, xs, bs, R, rfl, hs, hR, hd, hal, hk, hdp, q⟩ := h
  obtain ⟨its, rv, hl, hz⟩ := I.list hs
  rw [Vals.ref1 r]
  have e1 : EachIs (fun v b => ∃ x, RelV x v ∧ R x b) its bs := each_of rv hR hd fun x u b hr hx _ => ⟨x, hr, hx⟩
  have e2 : EachIs (fun v b => ∃ as, Reads s.heap v (enc b) as) its bs := each_of rv hR hd fun x u b hr _ hd => Dp.reads I _ _ _ hd hr
  have hl2 := e1.length
  refine sorted_data hl.isList e1 e2 hal hk (by rw [← hl2, ← rv.length]; exact hz) (fun b hb => by have := hdp b hb; omega) fun out ho eo => ?_
  obtain ⟨ys, h1, h2⟩ := each_pairs (F := R) (fun v b ⟨x, a1, a2⟩ => ⟨x, a1, a2⟩) eo
  obtain ⟨ep, he'⟩ := PyProof.Rows.sortedAll_at s.heap its out.toArray
  have hlen : ys.length ≤ sizeLine := by
    rw [h1.length, ho, ← hl2, ← rv.length]
    exact hz
  exact ⟨.ref _, L2.upd H (s.heap.objs.size + 1) (.lst ys), I.laid (t' := s.toks) (fun _ _ => PyProof.Rows.sortedAll_old) (Nat.le_succ _) ⟨hlen, out, ep, h1, he'⟩, rfl, q ys _ h2 (I.hok.fresh (Nat.le_succ _))⟩
end
/-! ### xs.count(x), x data of any depth -/
section
open PySem.Spec PyProof.Rows
def rCntD (K : PySem.W.Frag) : V → List V → Hp → VK → Prop := fun x xs H Q => ∃ (a : Addr) (ys : List V) (y : V) (d : PyData) (ds : List PyData), x = V.ref a ∧ xs = [y] ∧ SqL K H a ys ∧ DpAll K H ys ds ∧ Dp K H y d ∧ PyData.plainAll ds = true ∧ d.plain = true ∧ d.depth ≤ 60 ∧ Q (.int ((ds.countP fun z => PyData.eqv z d : Nat) : Int)) H
theorem mt_countD {X : Cx} (hu : X.A.units + 65 < cLine) : MtR X "list.count" (rCntD X.K) := by
  intro pins s σ H x xs v us Q I rx rxs h
  obtain ⟨a, ys, y, d, ds, rfl, rfl, hl, hds, hd, p1, p2, hdp, q⟩ := h
  cases rx
  cases rxs with
  | cons ry rt =>
    rename_i uy ut
    cases rt
    obtain ⟨bs, r1⟩ := Dp.reads I d y uy hd ry
    obtain ⟨its, rv, hL, _⟩ := I.list hl
    obtain ⟨as, hr⟩ := Dp.readsAll I ds ys its hds rv
    refine PySem.SeqAt.count_list_data hL.isList hr r1 p1 p2 (by omega) ⟨.int _, H, I.tok _, ⟨_, rfl⟩, q⟩
end
/-! ### max(xs, default=d), xs a list of ints -/
section
open PySem.Spec PyProof.Rows
open PySem.W (alike alikeAll dataLt maxD AlikeAll max_list_default)
def rMaxDef (K : PySem.W.Frag) : List V → List V → Hp → VK → Prop := fun vs zs H Q => ∃ (a : Addr) (ns : List Int) (d : V), vs = [V.ref a] ∧ zs = [d] ∧ SqL K H a (ns.map V.int) ∧ (ns = [] → Q d H) ∧ ∀ m, m ∈ ns → (∀ y, y ∈ ns → y ≤ m) → Q (.int m) H
def maxI (x : Int) (xs : List Int) : Int := xs.foldl (fun a y => if a < y then y else a) x
theorem maxI_spec : ∀ (xs : List Int) (x : Int), maxI x xs ∈ x :: xs ∧ ∀ y ∈ x :: xs, y ≤ maxI x xs
  | [], x => ⟨List.mem_cons_self, fun y hy => by rw [List.mem_singleton.mp hy]; exact Int.le_refl _⟩
  | z :: r, x => by
    obtain ⟨h1, h2⟩ := maxI_spec r (if x < z then z else x)
    have e : maxI x (z :: r) = maxI (if x < z then z else x) r := rfl
    rw [e]
    have h3 := h2 _ List.mem_cons_self
    refine ⟨?_, fun y hy => ?_⟩
    · rcases List.mem_cons.mp h1 with q | q
      · rw [q]
        split <;> simp
      · exact List.mem_cons_of_mem _ (List.mem_cons_of_mem _ q)
    · rcases List.mem_cons.mp hy with q | q
      · rw [q]
        split at h3 <;> rename_i c
        · rw [if_pos c]; omega
        · rw [if_neg c]; omega
      · rcases List.mem_cons.mp q with q | q
        · rw [q]
          split at h3 <;> rename_i c
          · rw [if_pos c]; omega
          · rw [if_neg c]; omega
        · exact h2 y (List.mem_cons_of_mem _ q)
theorem maxD_int : ∀ (xs : List Int) (x : Int), maxD (.int x) (xs.map PyData.int) = .int (maxI x xs)
  | [], x => rfl
  | y :: ys, x => by
    show maxD (if dataLt (.int x) (.int y) = true then .int y else .int x) (ys.map PyData.int) = .int (maxI (if x < y then y else x) ys)
    rw [PySem.W.dataLt_int]
    by_cases c : x < y
    · rw [if_pos (decide_eq_true c), if_pos c]
      exact maxD_int ys y
    · rw [if_neg (by rw [decide_eq_false c]; exact Bool.false_ne_true), if_neg c]
      exact maxD_int ys x
theorem ints_dp {K : PySem.W.Frag} {H : Hp} : ∀ ns : List Int, DpAll K H (ns.map V.int) (ns.map PyData.int)
  | [] => .nil
  | n :: ns => .cons (.int _) (ints_dp ns)
theorem ints_alike (ns : List Int) : AlikeAll (ns.map PyData.int) := by
  refine ⟨fun x hx y hy => ?_, fun x hx => ?_⟩
  · obtain ⟨s, _, rfl⟩ := List.mem_map.mp hx
    obtain ⟨t, _, rfl⟩ := List.mem_map.mp hy
    simp [alike]
  · obtain ⟨s, _, rfl⟩ := List.mem_map.mp hx
    intro e
    cases e
theorem ints_depth : ∀ ns : List Int, PyData.depthAll (ns.map PyData.int) = 0
  | [] => by simp [PyData.depthAll]
  | n :: ns => by simp [PyData.depthAll, PyData.depth, ints_depth ns]
theorem cr_maxDef {X : Cx} (hc : X.calm = true) (hu : X.A.units + 65 < cLine) : CallRK X (.builtin "max") [Str.ofString "default"] (rMaxDef X.K) := by
  intro pins s σ H vs zs us ws Q I r rz h
  obtain ⟨a, ns, d, rfl, rfl, hs, q0, q⟩ := h
  obtain ⟨its, rv, hl, _⟩ := I.list hs
  rw [Vals.ref1 r]
  cases rz with
  | cons rd rt =>
    cases rt
    rename_i dv
    obtain ⟨as, hr⟩ := Dp.readsAll I (ns.map PyData.int) (ns.map V.int) its (ints_dp ns) rv
    refine max_list_default (I.ok.hd hc) hl.isList hr (ints_alike ns) (by rw [ints_depth]; omega) (fun e h' tk hk => ?_) fun y ys i v h' tk bs e hi rd' hk => ?_
    · exact ⟨d, H, I.kept (t' := tk) hk, rd, q0 (List.map_eq_nil_iff.mp e)⟩
    · cases ns with
      | nil => cases e
      | cons n ns =>
        rw [List.map_cons] at e
        injection e with e1 e2
        subst e1
        subst e2
        rw [maxD_int] at rd'
        obtain ⟨m1, m2⟩ := maxI_spec ns n
        have hi2 : its[i]? = some v := by simpa using hi
        have hil : i < (List.map V.int (n :: ns)).length := by
          rw [rv.length]
          exact (List.getElem?_eq_some_iff.mp hi2).1
        obtain ⟨u, hu2, ru⟩ := rv.get (List.getElem?_eq_getElem hil)
        obtain rfl : u = v := Option.some.inj (hu2.symm.trans hi2)
        cases rd'
        exact ⟨.int _, H, I.kept (t' := tk) hk, ⟨_, rfl⟩, q _ m1 m2⟩
end
/-! ### d.values(), list(d.values()) of a dict whose keys are tuples -/
section
open PySem.Spec PyProof.Rows
/-- the view d.values() at p -/
def valsO (p d : Addr) : HO := .ext fun h => h.IsValuesView p d
theorem valsO_ok {P : Program} {w : World} {H : Hp} {h : Heap} {p d : Addr} (e : h.get? p = some { cls := .type "dict_values", data := .fields #[.ref d] }) : ObjOk P w H h p (valsO p d) :=
  ⟨⟨_, e, rfl, rfl⟩, ⟨_, e⟩, fun h1 h2 x k => let ⟨o, ho, r⟩ := x; ⟨o, k o ho, r⟩⟩
variable {X : Cx}
def rValuesT : V → List V → Hp → VK → Prop := fun x xs H Q => ∃ (a : Addr) (kvs : List (List L2.Key × V)), x = .ref a ∧ xs = [] ∧ H a = some (.dT kvs) ∧ ∀ p, H p = none → Q (.ref p) (L2.upd H p (valsO p a))
theorem mt_valuesT : MtR X "dict.values" rValuesT := by
  intro pins s σ H x xs v us Q I rx rxs h
  obtain ⟨a, kvs, rfl, rfl, ha, q⟩ := h
  cases rx
  cases rxs
  obtain ⟨z, hd, xs', rel, o, es, ep, ho, hx, hdat, _⟩ := dt_of I.hok ha
  have raw : s.heap.DictRaw a es ep := ⟨o, ho, hx, hdat⟩
  refine call_meetsIn PySem.F.slot_dict_values raw.typeIs PySem.F.entry_dict_values (PySem.F.args_dict_values_1 _) (PySem.meets_dict_values_raw a hd) ⟨⟨es, ep, raw⟩, ?_⟩
  have hf : H s.heap.objs.size = none := I.hok.fresh (Nat.le_refl _)
  exact ⟨.ref s.heap.objs.size, L2.upd H s.heap.objs.size (valsO s.heap.objs.size a), I.laid (t' := s.toks) (fun b u e => Heap.get?_push_of_some _ e) (Nat.le_refl _) (valsO_ok (Heap.get?_push_size _ rfl)), rfl, q _ hf⟩
theorem kt_vals {H : Hp} : ∀ {kvs : List (List L2.Key × V)} {xs : List (List L2.Key × Addr × Value)}, KT H kvs xs → Vals (kvs.map (·.2)) (xs.map fun x => x.2.2)
  | _, _, .nil => .nil
  | _, _, .cons h t => .cons h.2.2 (kt_vals t)
theorem call_list_valuesT (hc : X.calm = true) : CallR X (.type "list") (fun xs H Q => ∃ (v d : Addr) (kvs : List (List L2.Key × V)), xs = [V.ref v] ∧ H v = some (valsO v d) ∧ H d = some (.dT kvs) ∧ ∀ p, H p = none → Q (.ref p) (L2.upd H p (.lst (kvs.map (·.2))))) := by
  intro pins s σ H xs us Q I r h
  obtain ⟨v, d, kvs, rfl, hv, hd, q⟩ := h
  obtain ⟨u, rfl, rx⟩ := r.one
  cases rx
  obtain ⟨z, hs, ks, pr, o, es, ep, ho, hx, hdt, he, hn⟩ := dt_of I.hok hd
  have hvv : s.heap.IsValuesView v d := (show ObjOk X.prog X.w H s.heap v (valsO v d) from I.hok v _ hv).1
  have raw : s.heap.DictRaw d es ep := ⟨o, ho, hx, hdt⟩
  have l1 : es.size = ks.length := size_of_entries he
  have l2 : kvs.length = ks.length := Paired.length pr
  refine PySem.W.kdl_call PySem.KdlSrc.rawValues (I.ok.hd hc) ⟨hvv, raw⟩ (by omega) fun h' tk acc' c' kp e it => ?_
  have ea : acc'.toList = ks.map fun x => x.2.2 := by
    have hl : acc'.toList.length = ks.length := by rw [Array.length_toList, it.1]; exact l1
    apply List.ext_getElem?
    intro j
    rw [List.getElem?_map]
    cases hj : acc'.toList[j]? with
    | none =>
      have h1 := List.getElem?_eq_none_iff.mp hj
      rw [List.getElem?_eq_none (by omega)]
      all_goals rfl
    | some v =>
      obtain ⟨hi, hv⟩ := it.2 j v (by rw [← Array.getElem?_toList]; exact hj)
      have qe := entry_at he j
      rw [Array.getElem?_eq_getElem hi] at qe
      cases hb : ks[j]? with
      | none =>
        rw [hb] at qe
        exact nomatch (show some es[j] = none from qe)
      | some b =>
        rw [hb] at qe
        have e2 : es[j] = entryOfKey (tupleKind (mixKind X.prog X.w)) b := Option.some.inj qe
        rw [hv, e2]
        all_goals rfl
  have rv : Vals (kvs.map (·.2)) acc'.toList := by
    rw [ea]
    exact kt_vals pr
  have hz : (kvs.map (·.2)).length ≤ sizeLine := by rw [List.length_map]; omega
  refine ⟨.ref s.heap.objs.size, _, I.laid (t' := tk) (o := .lst (kvs.map (·.2))) kp (Nat.le_refl _) ?_, rfl, q _ (I.hok.fresh (Nat.le_refl _))⟩
  exact ⟨hz, acc'.toList, c', rv, by rw [Array.toArray_toList]; exact e⟩
end
/-! ### xs * k of a tuple, k 0 or 1 -/
section
open PySem.Spec PyProof.Rows
theorem tuple_mul1 (l : Addr) (items : Array Value) (n : Nat) (dd : Option Addr) (sl : Array (Option Value)) (u : Tok) :
    Meets (Builtin.«tuple.__mul__» ⟨[.ref l, .int 1 u], []⟩) (fun _ R s => s.heap.get? l = some { cls := .type "tuple", dict := dd, data := .seq items n, slots := sl } ∧ R (.ok (.ret (.ref l))) s) :=
  .of_wp fun prog w A R s h => by
    obtain ⟨hp, g, d, tk, os⟩ := s
    obtain ⟨hl, h⟩ := h
    have f1 := AutoSeq1.idx_int
    have c1 : (items.isEmpty || (1 : Int) == 1) = true := by rw [Bool.or_eq_true]; exact .inr rfl
    wp_walk using wpAny_loadPart' hl
    repeat (first
      | (refine wpAny_ite_false (decide_eq_false (by decide)) ?_; wp_walk using wpAny_loadPart' hl)
      | (refine wpAny_ite_true (decide_eq_true c1) ?_; wp_walk using wpAny_loadPart' hl))
    exact ⟨_, rfl, h⟩
theorem tuple_mul0 (l : Addr) (items : Array Value) (n : Nat) (dd : Option Addr) (sl : Array (Option Value)) (u : Tok) (hi : items.isEmpty = false) :
    Meets (Builtin.«tuple.__mul__» ⟨[.ref l, .int 0 u], []⟩) (fun _ R s => s.heap.get? l = some { cls := .type "tuple", dict := dd, data := .seq items n, slots := sl } ∧ R (.ok (.ret (.ref s.heap.objs.size))) { s with heap := s.heap.push { cls := Value.type "tuple", data := Data.seq #[] }, toks := s.toks }) :=
  .of_wp fun prog w A R s h => by
    obtain ⟨hp, g, d, tk, os⟩ := s
    obtain ⟨hl, h⟩ := h
    have f1 := AutoSeq1.idx_int
    have c1 : ¬ (items.isEmpty || (0 : Int) == 1) = true := by rw [hi]; decide
    have c2 : (decide ((0 : Int) ≤ 0) || items.isEmpty) = true := by rw [hi]; decide
    wp_walk using wpAny_loadPart' hl
    repeat (first
      | (refine wpAny_ite_false (decide_eq_false (by decide)) ?_; wp_walk using wpAny_loadPart' hl)
      | (refine wpAny_ite_false (decide_eq_false c1) ?_; wp_walk using wpAny_loadPart' hl)
      | (refine wpAny_ite_true (decide_eq_true c2) ?_; wp_walk using wpAny_loadPart' hl))
    exact ⟨_, rfl, h⟩
def rRep01 (K : PySem.W.Frag) : R2 := fun x y H Q => ∃ l k xs, x = .ref l ∧ y = .int k ∧ SqT K H l xs ∧ xs ≠ [] ∧ (k = 0 ∨ k = 1) ∧ (k = 1 → Q (.ref l) H) ∧ (k = 0 → ∀ p, H p = none → Q (.ref p) (L2.upd H p (.tup [])))
theorem op_rep01 {X : Cx} : OpR X (binaryOp .Mult) (rRep01 X.K) := by
  intro pins s σ H x y v u Q I rx ry h
  obtain ⟨l, k, xs, rfl, rfl, hT, hne, hk, q1, q0⟩ := h
  cases rx
  obtain ⟨t, rfl⟩ := ry
  obtain ⟨its, r, ⟨⟨cls, dd, data, sl⟩, ho, hc, n, hd⟩, hs⟩ := I.tuple hT
  simp only at hc hd
  subst hc hd
  have hn : its ≠ [] := fun e => hne (by
    have := r.length
    rw [e] at this
    exact List.eq_nil_of_length_eq_zero this)
  have hi : its.toArray.isEmpty = false := by
    cases its with
    | nil => exact absurd rfl hn
    | cons a b => rfl
  rcases hk with rfl | rfl
  · refine wpAny_binaryOp_repeat_ref (T := "tuple") (U := "int") (by decide) ⟨_, ho, rfl⟩ (fun s' => typeIs_int s' 0 t) noFill_tuple_mul PySem.F.fills_int_mul PySem.F.slot_int_rmul repeat_tuple PySem.F.slot_int_index.lookup
      (call_meets PySem.F.slot_int_rmul (typeIs_int s 0 t) PySem.F.entry_int_rmul (PySem.F.args_int_rmul_2 _ _) (int_rmul_tuple 0 t l its.toArray n dd sl)
        ⟨ho, rfl, ⟨_, ho, rfl⟩, call_meets PySem.F.slot_tuple_mul ⟨_, ho, rfl⟩ PySem.F.entry_tuple_mul (PySem.F.args_tuple_mul_2 _ _) (tuple_mul0 l its.toArray n dd sl t hi) ⟨ho, ?_⟩⟩)
    refine ⟨.ref s.heap.objs.size, _, I.laid (t' := s.toks) (o := .tup []) (fun b ob q => Heap.get?_push_of_some _ q) (Nat.le_refl _) ?_, rfl, q0 rfl _ (I.hok.fresh (Nat.le_refl _))⟩
    exact ⟨Nat.zero_le _, [], .nil, IsTup.new _ _⟩
  · refine wpAny_binaryOp_repeat_ref (T := "tuple") (U := "int") (by decide) ⟨_, ho, rfl⟩ (fun s' => typeIs_int s' 1 t) noFill_tuple_mul PySem.F.fills_int_mul PySem.F.slot_int_rmul repeat_tuple PySem.F.slot_int_index.lookup
      (call_meets PySem.F.slot_int_rmul (typeIs_int s 1 t) PySem.F.entry_int_rmul (PySem.F.args_int_rmul_2 _ _) (int_rmul_tuple 1 t l its.toArray n dd sl)
        ⟨ho, rfl, ⟨_, ho, rfl⟩, call_meets PySem.F.slot_tuple_mul ⟨_, ho, rfl⟩ PySem.F.entry_tuple_mul (PySem.F.args_tuple_mul_2 _ _) (tuple_mul1 l its.toArray n dd sl t) ⟨ho, ?_⟩⟩)
    exact ⟨.ref l, H, I, rfl, q1 rfl⟩
end
/-! ### a comprehension over two ranges -/
theorem lc2_rng {lo : Int} {n : Nat} {g : TG} {tt tt1 : TT} {wi1 : TI} {g1 : TG} {te : TE} {vs vs1 : List Nat} {σ : L2.St} {H1 : Hp} {D : Addr} {Qd : Hp → Prop} (Pv : Nat → Hp → Prop) (h0 : Pv 0 (upd H1 D (.lst [])))
    (hs : ∀ i H, i < n → Pv i H → g (.int (lo + i)) (wipe σ vs) H fun σ2 H2 => wipe σ2 vs = wipe σ vs ∧ tt σ2 H2 fun b H3 =>
      if b = true then wi1 σ2 H3 fun J1 H4 => ∃ W1 : Nat → Nat → Hp → Prop, (∃ m, W1 0 m H4) ∧ ∀ j k H, W1 j k H →
          (J1.stop j H ∧ Pv (i + 1) H) ∨ (J1.go j H ∧ ∃ Nx1 : Hp → Prop, (∀ H', Nx1 H' → ∃ k', k' < k ∧ W1 (j + 1) k' H') ∧ ∀ x H', J1.yld j H x H' → g1 x (wipe σ2 vs1) H' fun σ3 H5 => wipe σ3 vs1 = wipe σ2 vs1 ∧ tt1 σ3 H5 fun b H6 =>
            if b = true then te σ3 H6 fun y H7 => ∃ acc, H7 D = some (.lst acc) ∧ acc.length < sizeLine ∧ Nx1 (upd H7 D (.lst (acc ++ [y]))) else Nx1 H6)
      else Pv (i + 1) H3) (hd : ∀ H, Pv n H → Qd H) :
    ∃ W : Nat → Nat → Hp → Prop, (∃ m, W 0 m (upd H1 D (.lst []))) ∧ ∀ i m H, W i m H →
      ((Itr lo n).stop i H ∧ Qd H) ∨ ((Itr lo n).go i H ∧ ∃ Nx : Hp → Prop, (∀ H', Nx H' → ∃ m', m' < m ∧ W (i + 1) m' H') ∧ ∀ x H', (Itr lo n).yld i H x H' → g x (wipe σ vs) H' fun σ2 H2 => wipe σ2 vs = wipe σ vs ∧ tt σ2 H2 fun b H3 =>
        if b = true then wi1 σ2 H3 fun J1 H4 => ∃ W1 : Nat → Nat → Hp → Prop, (∃ m, W1 0 m H4) ∧ ∀ j k H, W1 j k H →
          (J1.stop j H ∧ Nx H) ∨ (J1.go j H ∧ ∃ Nx1 : Hp → Prop, (∀ H', Nx1 H' → ∃ k', k' < k ∧ W1 (j + 1) k' H') ∧ ∀ x H', J1.yld j H x H' → g1 x (wipe σ2 vs1) H' fun σ3 H5 => wipe σ3 vs1 = wipe σ2 vs1 ∧ tt1 σ3 H5 fun b H6 =>
            if b = true then te σ3 H6 fun y H7 => ∃ acc, H7 D = some (.lst acc) ∧ acc.length < sizeLine ∧ Nx1 (upd H7 D (.lst (acc ++ [y]))) else Nx1 H6)
        else Nx H3) := by
  refine ⟨fun i m H => m = n - i ∧ i ≤ n ∧ Pv i H, ⟨n, by simp, Nat.zero_le _, h0⟩, ?_⟩
  rintro i m H ⟨rfl, hi, p⟩
  by_cases hlt : i < n
  · refine .inr ⟨hlt, Pv (i + 1), fun H' p' => ⟨n - (i + 1), by omega, rfl, hlt, p'⟩, fun x H' y => ?_⟩
    obtain ⟨e, y⟩ := y
    subst e y
    exact hs i _ hlt p
  · have e : i = n := by omega
    subst e
    exact .inl ⟨Nat.le_refl _, hd H p⟩
theorem in_rng {lo : Int} {n : Nat} {g1 : TG} {tt1 : TT} {te : TE} {vs1 : List Nat} {σ2 : L2.St} {H4 : Hp} {D : Addr} {Nx : Hp → Prop} (Pv : Nat → Hp → Prop) (h0 : Pv 0 H4)
    (hs : ∀ i H, i < n → Pv i H → g1 (.int (lo + i)) (wipe σ2 vs1) H fun σ3 H5 => wipe σ3 vs1 = wipe σ2 vs1 ∧ tt1 σ3 H5 fun b H6 =>
      if b = true then te σ3 H6 fun y H7 => ∃ acc, H7 D = some (.lst acc) ∧ acc.length < sizeLine ∧ Pv (i + 1) (upd H7 D (.lst (acc ++ [y]))) else Pv (i + 1) H6) (hd : ∀ H, Pv n H → Nx H) :
    ∃ W1 : Nat → Nat → Hp → Prop, (∃ m, W1 0 m H4) ∧ ∀ j k H, W1 j k H →
      ((Itr lo n).stop j H ∧ Nx H) ∨ ((Itr lo n).go j H ∧ ∃ Nx1 : Hp → Prop, (∀ H', Nx1 H' → ∃ k', k' < k ∧ W1 (j + 1) k' H') ∧ ∀ x H', (Itr lo n).yld j H x H' → g1 x (wipe σ2 vs1) H' fun σ3 H5 => wipe σ3 vs1 = wipe σ2 vs1 ∧ tt1 σ3 H5 fun b H6 =>
        if b = true then te σ3 H6 fun y H7 => ∃ acc, H7 D = some (.lst acc) ∧ acc.length < sizeLine ∧ Nx1 (upd H7 D (.lst (acc ++ [y]))) else Nx1 H6) := by
  refine ⟨fun i m H => m = n - i ∧ i ≤ n ∧ Pv i H, ⟨n, by simp, Nat.zero_le _, h0⟩, ?_⟩
  rintro i m H ⟨rfl, hi, p⟩
  by_cases hlt : i < n
  · refine .inr ⟨hlt, Pv (i + 1), fun H' p' => ⟨n - (i + 1), by omega, rfl, hlt, p'⟩, fun x H' y => ?_⟩
    obtain ⟨e, y⟩ := y
    subst e y
    exact hs i _ hlt p
  · have e : i = n := by omega
    subst e
    exact .inl ⟨Nat.le_refl _, hd H p⟩
/-! ### plain mathematics: orders, the first valid one, ways -/
structure Od where
  s : Nat
  t : Nat
  f : Nat
  n : Nat
  e : Nat
def Od.vs (o : Od) : List V := [.int o.s, .int o.t, .int o.f, .int o.n, .int o.e]
structure OdOk (p h : Nat) (o : Od) : Prop where
  s : o.s < h
  t : o.t < h
  st : o.s ≠ o.t
  f : o.f < p
  n1 : 1 ≤ o.n
  n : o.n ≤ p
  e1 : 1 ≤ o.e
  e : o.e ≤ 9
/-- the order o is valid on the day d of a net of period p -/
def onDay (p : Nat) (o : Od) (d : Int) : Bool := decide ((d - (o.f : Int)) % (p : Int) < (o.n : Int))
def hit (p : Nat) (s : Nat) (d : Int) (o : Od) : Bool := decide (o.s = s) && onDay p o d
/-- the number of the order that is followed -/
def idx (p : Nat) (os : List Od) (s : Nat) (d : Int) : Option Nat := os.findIdx? (hit p s d)
def optV : Option Nat → V
  | none => .non
  | some k => .int k
theorem optV_flat (o : Option Nat) : flatV (optV o) = true := by cases o <;> rfl
theorem idx_mod (p : Nat) (os : List Od) (s : Nat) (d : Int) : idx p os s (d % (p : Int)) = idx p os s d := by
  unfold idx
  congr 1
  funext o
  unfold hit onDay
  rw [Int.emod_sub_emod]
theorem idx_nat (p : Nat) (os : List Od) (s d : Nat) : idx p os s ((d % p : Nat) : Int) = idx p os s (d : Int) := by
  rw [Int.natCast_emod]
  exact idx_mod p os s d
theorem idx_later (p : Nat) (os : List Od) (s d k : Nat) : idx p os s ((d + p * k : Nat) : Int) = idx p os s (d : Int) := by
  rw [← idx_nat p os s (d + p * k), Nat.add_mul_mod_self_left, idx_nat]
theorem idx_lt {p : Nat} {os : List Od} {s k : Nat} {d : Int} (h : idx p os s d = some k) : k < os.length := by
  unfold idx at h
  exact (List.findIdx?_eq_some_iff_getElem.mp h).1
theorem idx_take_succ {p : Nat} {os : List Od} {s k : Nat} {d : Int} {o : Od} (h : os[k]? = some o) :
    idx p (os.take (k + 1)) s d = (idx p (os.take k) s d).or (if hit p s d o = true then some k else none) := by
  obtain ⟨hk, ho⟩ := List.getElem?_eq_some_iff.mp h
  unfold idx
  rw [List.take_add_one, h, Option.toList_some, List.findIdx?_append, List.findIdx?_singleton]
  have hl : (os.take k).length = k := by rw [List.length_take]; omega
  rw [hl]
  cases hh : hit p s d o with
  | true => simp
  | false => simp
/-- which days of the period are among the first l days of an order -/
def among (p f l d : Nat) : Prop := ∃ j, j < l ∧ (f + j) % p = d
theorem among_zero (p f d : Nat) : ¬ among p f 0 d := fun ⟨_, h, _⟩ => absurd h (Nat.not_lt_zero _)
theorem among_succ {p f l d : Nat} : among p f (l + 1) d ↔ among p f l d ∨ (f + l) % p = d := by
  constructor
  · rintro ⟨j, hj, e⟩
    by_cases z : j = l
    · subst z
      exact .inr e
    · exact .inl ⟨j, by omega, e⟩
  · rintro (⟨j, hj, e⟩ | e)
    · exact ⟨j, by omega, e⟩
    · exact ⟨l, by omega, e⟩
theorem among_on {p h d : Nat} {o : Od} (k : OdOk p h o) (hd : d < p) : among p o.f o.n d ↔ onDay p o (d : Int) = true := by
  unfold onDay
  rw [decide_eq_true_iff]
  have kf := k.f
  have kn := k.n
  have key : ((d : Int) - (o.f : Int)) % (p : Int) = if o.f ≤ d then (d : Int) - o.f else (d : Int) - o.f + p := by
    split
    · exact Int.emod_eq_of_lt (by omega) (by omega)
    · rw [← Int.add_emod_right]
      exact Int.emod_eq_of_lt (by omega) (by omega)
  rw [key]
  constructor
  · rintro ⟨j, hj, e⟩
    by_cases q : o.f + j < p
    · rw [Nat.mod_eq_of_lt q] at e
      rw [if_pos (by omega)]
      omega
    · have e2 : (o.f + j) % p = o.f + j - p := by
        rw [Nat.mod_eq_sub_mod (by omega), Nat.mod_eq_of_lt (by omega)]
      rw [e2] at e
      split
      · omega
      · omega
  · intro q
    by_cases c : o.f ≤ d
    · rw [if_pos c] at q
      exact ⟨d - o.f, by omega, by rw [show o.f + (d - o.f) = d by omega]; exact Nat.mod_eq_of_lt hd⟩
    · rw [if_neg c] at q
      refine ⟨d + p - o.f, by omega, ?_⟩
      rw [show o.f + (d + p - o.f) = d + p by omega, Nat.add_mod_right]
      exact Nat.mod_eq_of_lt hd
/-- one hop of a letter at a house on a day -/
def hop (p : Nat) (os : List Od) (st : Nat × Nat) : Option (Nat × Nat) :=
  match idx p os st.1 (st.2 : Int) with
  | none => none
  | some k => (os[k]?).map fun o => (o.t, st.2 + o.e)
/-- the first n stops of a letter -/
def way (p : Nat) (os : List Od) : Nat → Nat × Nat → List (Nat × Nat)
  | 0, _ => []
  | n + 1, st => st :: match hop p os st with
    | none => []
    | some st' => way p os n st'
/-! ### heaps -/
/-- all but what stands at d is as it was -/
def But (d : Addr) (H H' : Hp) : Prop := ∀ b o, b ≠ d → H b = some o → H' b = some o
theorem But.refl {d : Addr} {H : Hp} : But d H H := fun _ _ _ e => e
theorem But.trans {d : Addr} {H H1 H2 : Hp} (a : But d H H1) (b : But d H1 H2) : But d H H2 := fun c o n e => b c o n (a c o n e)
theorem But.of {d : Addr} {H H' : Hp} (s : Same H H') : But d H H' := fun b o _ e => s b o e
theorem But.upd {d : Addr} {H : Hp} {o : HO} : But d H (upd H d o) := fun b u n e => by rw [upd_ne n]; exact e
theorem same_upd {H : Hp} {p : Addr} {o : HO} (h : H p = none) : Same H (L2.upd H p o) := fun b x e => by
  rw [upd_ne (ne_of_none e h)]
  exact e
theorem same_updN {H H' : Hp} {p : Addr} {o : HO} (s : Same H H') (h : H p = none) : Same H (L2.upd H' p o) := fun b x e => by
  rw [upd_ne (ne_of_none e h)]
  exact s b x e
theorem But.new {d p : Addr} {H : Hp} {o : HO} (h : H p = none) : But d H (L2.upd H p o) := But.of (same_upd h)
theorem But.free {d p : Addr} {H H' : Hp} {o : HO} (s : But d H H') (hd : H' d = some o) (h : H' p = none) : H p = none := by
  cases q : H p with
  | none => rfl
  | some u =>
    by_cases e : p = d
    · rw [e, hd] at h
      cases h
    · rw [s p u e q] at h
      cases h
/-- the tail of ints of the source of numbers -/
def DL (s c : Nat) (r : List Nat) : List V := .int s :: .int c :: r.map fun (n : Nat) => V.int (n : Int)
def DAt (H : Hp) (d : Addr) : Prop := ∃ s c r, s < 2147483647 ∧ r.length ≤ 63 ∧ H d = some (.lst (DL s c r))
theorem DAt.but {H H' : Hp} {d : Addr} (h : DAt H d) (s : Same H H') : DAt H' d := by
  obtain ⟨a, b, c, h1, h2, h3⟩ := h
  exact ⟨a, b, c, h1, h2, s _ _ h3⟩
theorem DAt.som {H : Hp} {d : Addr} (h : DAt H d) : ∃ o, H d = some o := by
  obtain ⟨a, b, c, h1, h2, h3⟩ := h
  exact ⟨_, h3⟩
theorem dl0 {s c : Nat} {r : List Nat} : atI (DL s c r) 0 = some (.int s) := atI_nat (j := 0) rfl
theorem dl1 {s c : Nat} {r : List Nat} : atI (DL s c r) 1 = some (.int c) := atI_nat (j := 1) rfl
theorem ix_at {n j : Nat} (hj : j < n) : ixN n (j : Int) = some j := by
  unfold ixN
  rw [if_pos (by omega), if_pos (by omega)]
  simp
theorem seqIx {n j : Nat} (hj : j < n) : seqIndex? (j : Int) n = some j := by
  unfold seqIndex?
  have h1 : ¬ (j : Int) < 0 := by omega
  have h2 : (decide (0 ≤ (j : Int)) && decide ((j : Int) < (n : Int))) = true := by
    rw [decide_eq_true (show 0 ≤ (j : Int) by omega), decide_eq_true (show (j : Int) < (n : Int) by omega)]
    rfl
  simp only [if_neg h1]
  rw [if_pos h2]
  simp
theorem fmod_nat (a b : Nat) : (a : Int).fmod (b : Int) = ((a % b : Nat) : Int) := by
  rw [Int.fmod_eq_emod_of_nonneg _ (by omega)]
  rfl
theorem fdiv_nat (a b : Nat) : (a : Int).fdiv (b : Int) = ((a / b : Nat) : Int) := by
  rw [Int.fdiv_eq_ediv_of_nonneg _ (by omega)]
  rfl
theorem dlx {s c j : Nat} {r : List Nat} (h : j < 2) : ixN (DL s c r).length (j : Int) = some j := ix_at (by
  show j < (List.map _ r).length + 1 + 1
  omega)
theorem dllen {s c : Nat} {r : List Nat} : (DL s c r).length = r.length + 2 := by
  show (List.map _ r).length + 1 + 1 = _
  rw [List.length_map]
/-- the built-ins that no name of the program hides -/
structure Blt (mg : Str → Option Value) : Prop where
  len : mg "len" = none
  range : mg "range" = none
  isi : mg "isinstance" = none
  int : mg "int" = none
  bool : mg "bool" = none
  str : mg "str" = none
  tuple : mg "tuple" = none
  list : mg "list" = none
  all : mg "all" = none
  abs : mg "abs" = none
  enum : mg "enumerate" = none
/-- a def of the top that keeps its promise -/
def Df (P : Program) (w : World) (K : PySem.W.Frag) (mg : Str → Option Value) (base : Heap) (x : Str) (k : Nat) (ps : List Str) (sp : Sp) : Prop :=
  ∃ (f : Addr) (fd : FuncData), mg x = some (.ref f) ∧ PySem.W.keepIn K (.ref f) = true ∧ Binds K fd ps [] ∧ FnOk P w K mg base CX0 k f fd ps sp
/-- a list of numbers -/
def nints (l : List Nat) : List V := l.map fun (n : Nat) => V.int (n : Int)
/-- filtering a range step by step -/
theorem filter_range_succ' {n : Nat} {f : Nat → Bool} : (List.range (n + 1)).filter f = (List.range n).filter f ++ (if f n = true then [n] else []) := by
  rw [List.range_succ, List.filter_append]
  congr 1
  by_cases c : f n = true
  · rw [if_pos c, List.filter_cons_of_pos c]
    rfl
  · rw [if_neg c, List.filter_cons_of_neg c]
    rfl
abbrev s_l_below : Stmt := top 40
abbrev N_l_below : List Str := ["_law_d", "_law_limit", "_law_result"]
abbrev P_l_below : List Str := ["_law_d", "_law_limit"]
theorem sc_l_below : FnScope N_l_below P_l_below (defScope s_l_below) := ⟨rfl, rfl, rfl, by decide +kernel, rfl, by decide +kernel, by decide +kernel⟩
/-! ### the next number -/
def spBelow : Sp := fun vs H Q _ => ∃ (d : Addr) (n : Nat), vs = [.ref d, .int n] ∧ DAt H d ∧ 0 < n ∧ n < 1152921504606846976 ∧
  ∀ H' (r : Nat), r < n → But d H H' → DAt H' d → Q (.int r) H'
section
variable {P : Program} {w : World} {K : PySem.W.Frag} {mg : Str → Option Value} {base : Heap}
theorem ok_below {f : Addr} {fd : FuncData} (F : Fun K "_law_below" "_law_below" s_l_below f fd) (ml : mg "len" = none) : FnOk P w K mg base CX0 2 f fd P_l_below spBelow := by
  refine F.ok sc_l_below (fun vs H Q E h => ?_) (fun cdv A outer s H vs Q E hr h => ?_)
  · obtain ⟨d, n, rfl, _⟩ := h
    rfl
  · obtain ⟨d, n, rfl, ⟨s0, c, r, hs, hl, hd⟩, n0, n1, q⟩ := h
    refine ⟨_, C8.pss_cut (ps_if (PW.pt (pw_and (pt_cmpR op_eq (pe_ix ix_list (pv 0) pe_int (fun _ _ => rfl)) pe_int (nomark _)) (pw_and1 (pt_cmpR op_gt (pe_callB call_len_seq (by rfl) ml PySem.boot_len (pa_cons (pv 0) pa_nil)) pe_int (nomark _)))))
        (pss_one (ps_asg (pe_bm PySem.F.plainAttrs_list PySem.F.slot_list_pop PySem.F.type_list_pop mt_popAt (pv 0) (pa_cons pe_int pa_nil)) (pg_sub (pv 0) pe_int set_list))) pss_nil)
      (pss_cons (ps_if (pt_cmpR op_gt (pe_ix ix_list (pv 0) pe_int (fun _ _ => rfl)) pe_int (nomark _))
        (pss_cons (ps_set (i := 2) sc_l_below.nd rfl (.inl rfl) (pe_op op_modN (pe_ix ix_list (pv 0) pe_int (fun _ _ => rfl)) (pv 1)))
          (pss_cons (ps_asg (pe_op op_fdivW (pe_ix ix_list (pv 0) pe_int (fun _ _ => rfl)) (pv 1)) (pg_sub (pv 0) pe_int set_list)) (pss_one (ps_ret (pv 2))))) pss_nil)
      (pss_cons (ps_asg (pe_op op_modN (pe_op op_add (pe_op op_mul (pe_ix ix_list (pv 0) pe_int (fun _ _ => rfl)) pe_int) pe_int) pe_int) (pg_sub (pv 0) pe_int set_list))
        (pss_one (ps_ret (pe_op op_modN (pe_op op_fdivN (pe_ix ix_list (pv 0) pe_int (fun _ _ => rfl)) pe_int) (pv 1)))))), ?_⟩
    -- if d[1] == 0 and len(d) > 2: d[1] = d.pop(2)
    have rest : ∀ (s1 c1 : Nat) (r1 : List Nat) (H1 : Hp), s1 < 2147483647 → r1.length ≤ 63 → But d H H1 → H1 d = some (.lst (DL s1 c1 r1)) →
        (fun σ' H' => σ' = [some (V.ref d), some (V.int n), none] ∧ But d H H' ∧ DAt H' d : L2.St → Hp → Prop) [some (V.ref d), some (V.int n), none] H1 := fun s1 c1 r1 H1 a1 a2 a3 a4 => ⟨rfl, a3, s1, c1, r1, a1, a2, a4⟩
    refine ⟨fun σ' H' => σ' = [some (V.ref d), some (V.int n), none] ∧ But d H H' ∧ DAt H' d, ⟨_, rfl, d, _, 1, _, rfl, rfl, SqL.of hd, dl1, rfl, _, rfl, ?_⟩, ?_⟩
    · refine ite2 (fun e => ?_) (fun _ => iteF (rest s0 c r H hs hl .refl hd))
      refine ⟨_, rfl, d, _, rfl, .inl (SqL.of hd), _, _, rfl, rfl, _, rfl, ?_⟩
      refine ite2 (fun e2 => ?_) (fun _ => rest s0 c r H hs hl .refl hd)
      have e3 : 2 < ((DL s0 c r).length : Int) := of_decide_eq_true e2
      rw [dllen] at e3
      cases r with
      | nil => exact absurd e3 (by decide)
      | cons m r2 =>
        have hl2 : r2.length + 1 ≤ 63 := hl
        refine ⟨_, rfl, .inl ⟨rfl, _, SqL.of hd⟩, d, _, 2, 2, .int m, rfl, rfl, hd, by decide, by decide, ?_, rfl, ?_⟩
        · exact seqIx (n := (DL s0 c (m :: r2)).length) (j := 2) (by rw [dllen, List.length_cons]; omega)
        · refine ⟨_, rfl, d, _, 1, 1, rfl, rfl, upd_same, ?_, ?_⟩
          · exact dlx (s := s0) (c := c) (r := r2) (j := 1) (by decide)
          · refine rest s0 m r2 _ hs (by omega) (fun b o nb e => ?_) upd_same
            rw [upd_ne nb, upd_ne nb]
            exact e
    · rintro σ' H1 ⟨rfl, b1, s1, c1, r1, hs1, hl1, hd1⟩
      -- if d[1] > 0
      refine ⟨_, rfl, d, _, 1, _, rfl, rfl, SqL.of hd1, dl1, _, _, rfl, rfl, _, rfl, ite2 (fun e => ?_) (fun _ => ?_)⟩
      · refine ⟨_, rfl, d, _, 1, _, rfl, rfl, SqL.of hd1, dl1, _, rfl, _, _, rfl, rfl, by omega, ?_⟩
        refine ⟨_, rfl, d, _, 1, _, rfl, rfl, SqL.of hd1, dl1, _, rfl, _, _, rfl, rfl, wide_div (b := 60) (by omega) (by show n < 2 ^ 60; exact n1) (by decide) (by decide), ?_⟩
        refine ⟨_, rfl, d, _, 1, 1, rfl, rfl, hd1, dlx (j := 1) (by decide), ?_⟩
        refine ⟨_, rfl, ?_⟩
        show Q (V.int ((c1 : Int).fmod (n : Int))) (L2.upd H1 d (.lst (DL s1 c1 r1 |>.set 1 (V.int ((c1 / n : Nat) : Int)))))
        rw [fmod_nat]
        exact q _ _ (Nat.mod_lt _ n0) (b1.trans .upd) ⟨s1, c1 / n, r1, hs1, hl1, upd_same⟩
      · refine ⟨_, rfl, d, _, 0, _, rfl, rfl, SqL.of hd1, dl0, _, _, rfl, rfl, .inl ⟨by omega, by omega⟩, _, _, rfl, rfl, _, _, rfl, rfl, (by show (2147483647 : Int) ≠ 0; decide), ?_⟩
        refine ⟨_, rfl, d, _, 0, 0, rfl, rfl, hd1, dlx (j := 0) (by decide), ?_⟩
        have e5 : ((s1 : Int) * 48271 + 11).fmod 2147483647 = (((s1 * 48271 + 11) % 2147483647 : Nat) : Int) := fmod_nat (s1 * 48271 + 11) 2147483647
        have e6 : ((DL s1 c1 r1).set 0 (V.int (((s1 : Int) * 48271 + 11).fmod 2147483647))) = DL ((s1 * 48271 + 11) % 2147483647) c1 r1 := by
          rw [e5]
          rfl
        have hd2 : (L2.upd H1 d (.lst ((DL s1 c1 r1).set 0 (V.int (((s1 : Int) * 48271 + 11).fmod 2147483647))))) d = some (.lst (DL ((s1 * 48271 + 11) % 2147483647) c1 r1)) := by
          rw [upd_same, e6]
        refine ⟨_, rfl, d, _, 0, _, rfl, rfl, SqL.of hd2, dl0, _, _, rfl, rfl, ⟨by decide, by decide⟩, _, rfl, _, _, rfl, rfl, by omega, ?_⟩
        show Q (V.int (Int.fmod (Int.fdiv (((s1 * 48271 + 11) % 2147483647 : Nat) : Int) ((64 : Nat) : Int)) (n : Int))) _
        rw [fdiv_nat, fmod_nat]
        exact q _ _ (Nat.mod_lt _ n0) (b1.trans .upd) ⟨_, c1, r1, Nat.mod_lt _ (by decide), hl1, hd2⟩
end
abbrev s_l_random : Stmt := top 39
abbrev N_l_random : List Str := ["_law_script", "_law_salt", "_law_seed", "_law_cell"]
abbrev P_l_random : List Str := ["_law_script", "_law_salt"]
theorem sc_l_random : FnScope N_l_random P_l_random (defScope s_l_random) := ⟨rfl, rfl, rfl, by decide +kernel, rfl, by decide +kernel, by decide +kernel⟩
/-! ### the source of numbers -/
def spRandom (K : PySem.W.Frag) : Sp := fun vs H Q _ => ∃ (a : Addr) (ns : List Int) (salt : Nat), vs = [.ref a, .int salt] ∧ SqL K H a (ns.map V.int) ∧ ns.length ≤ 63 ∧ salt < 2147483647 ∧
  ∀ H' d, Same H H' → H d = none → DAt H' d → Q (.ref d) H'
section
variable {P : Program} {w : World} {K : PySem.W.Frag} {mg : Str → Option Value} {base : Heap}
theorem ok_random {f : Addr} {fd : FuncData} (F : Fun K "_law_random" "_law_random" s_l_random f fd) (B : Blt mg) : FnOk P w K mg base CX0 2 f fd P_l_random (spRandom K) := by
  refine F.ok sc_l_random (fun vs H Q E h => ?_) (fun cdv A outer s H vs Q E hr h => ?_)
  · obtain ⟨a, ns, salt, rfl, _⟩ := h
    rfl
  · obtain ⟨a, ns, salt, rfl, hS, hlen, hsalt, q⟩ := h
    refine ⟨_, pss_cons (ps_set (i := 2) sc_l_random.nd rfl (.inl rfl) (pv 1))
      (pss_cons (ps_for PassesOwn.never rfl (pi_list (pv 0)) (pg_name (i := 3) sc_l_random.nd rfl (.inl rfl))
        (pss_one (ps_set (i := 2) sc_l_random.nd rfl (.inl rfl) (pe_op op_modN (pe_op op_add (pe_op op_mul (pv 2) pe_int) (pe_callB call_abs (by rfl) B.abs PyProof.Rows.boot_abs (pa_cons (pv 3) pa_nil))) pe_int))))
      (pss_one (ps_ret (pe_op op_cat (pe_lst (pa_cons (pv 2) (pa_cons pe_int pa_nil)))
        (pe_lc (own := [("_law_cell", 3)]) (g := gName 3) (by rfl) sc_l_random.nd (pi_list (pv 0)) (blkOk_by (N := N_l_random) (sc := defScope s_l_random) (by decide +kernel))
          (fun _ _ _ _ _ => pg_name (i := 3) sc_l_random.nd rfl (.inl rfl)) (fun _ _ _ _ _ => pts_one (pt_cmpR op_ge (pv 3) (pe_op op_pow pe_int pe_int) (nomark _))) (fun _ _ _ _ _ => pv 3)))))), ?_⟩
    refine ⟨_, rfl, .ref a, rfl, a, rfl, ⟨_, hS⟩, for_list (K := K) (a := a) (xs := ns.map V.int) (fun i σ H' => ∃ (z : Nat) (v : Option V), z < 2147483647 ∧ σ = [some (.ref a), some (.int salt), some (.int z), v] ∧ H' = H)
      ⟨salt, none, hsalt, rfl, rfl⟩ (fun i σ H' _ ⟨_, _, _, _, e⟩ => by rw [e]; exact hS) ?_ ?_⟩
    · rintro i y σ H' hi ⟨z, v, hz, rfl, rfl⟩
      obtain ⟨u, rfl⟩ : ∃ u, y = V.int u := by
        rw [List.getElem?_map] at hi
        cases e : ns[i]? with
        | none => rw [e] at hi; cases hi
        | some u => rw [e] at hi; exact ⟨u, (Option.some.inj hi).symm⟩
      refine ⟨_, rfl, _, _, rfl, rfl, .inl ⟨by omega, by omega⟩, _, rfl, _, rfl, _, _, rfl, rfl, _, _, rfl, rfl, (by show (2147483647 : Int) ≠ 0; decide), ?_⟩
      have e1 : (z : Int) * 31 + (if u < 0 then -u else u) = ((z * 31 + u.natAbs : Nat) : Int) := by
        split <;> omega
      refine ⟨(z * 31 + u.natAbs) % 2147483647, some (.int u), Nat.mod_lt _ (by decide), ?_, rfl⟩
      show [some (V.ref a), some (V.int salt), some (V.int (Int.fmod ((z : Int) * 31 + (if u < 0 then -u else u)) 2147483647)), some (V.int u)] = _
      rw [e1, show ((2147483647 : Int)) = ((2147483647 : Nat) : Int) from rfl, fmod_nat]
    · rintro σ H' ⟨z, v, hz, rfl, rfl⟩
      refine ⟨_, rfl, (by show 2 ≤ sizeLine; decide), fun l nl => ?_⟩
      have sl := same_upd (o := HO.lst [V.int z, V.int 0]) nl
      refine ⟨.ref a, rfl, a, rfl, ⟨_, sl.seq hS⟩, fun D nD => ?_⟩
      have nDl : l ≠ D := fun e => by
        rw [← e, upd_same] at nD
        cases nD
      refine lc_list (K := K) (a := a) (xs := ns.map V.int) (fun i H1 => ∃ r : List Nat, r.length ≤ i ∧ H1 = L2.upd (L2.upd H' l (.lst [V.int z, V.int 0])) D (.lst (r.map fun (n : Nat) => V.int (n : Int))))
        ⟨[], Nat.le_refl _, rfl⟩ (fun i H1 _ ⟨r, _, e⟩ => by rw [e]; exact (same_upd nD).seq (sl.seq hS)) ?_ ?_
      · rintro i x H1 hi ⟨r, hr1, rfl⟩
        obtain ⟨u, rfl⟩ : ∃ u, x = V.int u := by
          rw [List.getElem?_map] at hi
          cases e : ns[i]? with
          | none => rw [e] at hi; cases hi
          | some u => rw [e] at hi; exact ⟨u, (Option.some.inj hi).symm⟩
        have hi63 : i < ns.length := by
          have q := (List.getElem?_eq_some_iff.mp hi).1
          rw [List.length_map] at q
          exact q
        refine ⟨rfl, _, rfl, _, _, rfl, rfl, ⟨by decide, by decide, by decide⟩, _, _, rfl, rfl, _, rfl, ite2 (fun e => ?_) (fun _ => ⟨r, by omega, rfl⟩)⟩
        have e1 : (10 : Int) ^ (18 : Int).toNat ≤ u := of_decide_eq_true e
        have e2 : (0 : Int) ≤ u := Int.le_trans (by decide) e1
        refine ⟨_, rfl, _, upd_same, ?_, r ++ [u.toNat], ?_, ?_⟩
        · rw [List.length_map]
          exact small1000 (by omega)
        · rw [List.length_append, List.length_singleton]
          omega
        · rw [upd_upd, List.map_append]
          show L2.upd _ D (.lst (_ ++ [V.int u])) = L2.upd _ D (.lst (_ ++ [V.int (u.toNat : Int)]))
          rw [Int.toNat_of_nonneg e2]
      · rintro H1 ⟨r, hr1, rfl⟩
        rw [List.length_map] at hr1
        refine ⟨l, D, _, _, rfl, rfl, (upd_ne nDl).trans upd_same, upd_same, ?_, fun d nd => ?_⟩
        · rw [List.length_map]
          exact Nat.le_of_lt (small1000 (by show 2 + r.length ≤ 1000; omega))
        · refine q _ d (sl.trans ((same_upd nD).trans (same_upd nd))) (sl.free ((same_upd nD).free nd)) ⟨z, 0, r, hz, by omega, upd_same⟩
end
abbrev s_l_order : Stmt := top 41
abbrev N_l_order : List Str := ["_law_d", "_law_period", "_law_houses", "_law_source", "_law_delay", "_law_target"]
abbrev P_l_order : List Str := ["_law_d", "_law_period", "_law_houses"]
theorem sc_l_order : FnScope N_l_order P_l_order (defScope s_l_order) := ⟨rfl, rfl, rfl, by decide +kernel, rfl, by decide +kernel, by decide +kernel⟩
/-! ### an order made -/
def spOrder : Sp := fun vs H Q _ => ∃ (d : Addr) (p h : Nat), vs = [.ref d, .int p, .int h] ∧ DAt H d ∧ 0 < p ∧ p ≤ 30 ∧ 2 ≤ h ∧ h ≤ 10 ∧
  ∀ H' t o, OdOk p h o → But d H H' → DAt H' d → H t = none → H' t = some (.tup o.vs) → Q (.ref t) H'
section
variable {P : Program} {w : World} {K : PySem.W.Frag} {mg : Str → Option Value} {base : Heap}
theorem two_at {x y : V} {b : Nat} (hb : b < 2) : ∃ v, atI [x, y] (b : Int) = some v ∧ (v = x ∨ v = y) := by
  match b, hb with
  | 0, _ => exact ⟨x, atI_nat (j := 0) rfl, .inl rfl⟩
  | 1, _ => exact ⟨y, atI_nat (j := 1) rfl, .inr rfl⟩
theorem ok_order {f : Addr} {fd : FuncData} (F : Fun K "_law_order" "_law_order" s_l_order f fd) (DB : Df P w K mg base "_law_below" 2 P_l_below spBelow) : FnOk P w K mg base CX0 3 f fd P_l_order spOrder := by
  obtain ⟨fB, fdB, gB, kB, bB, GB⟩ := DB
  refine F.ok sc_l_order (fun vs H Q E h => ?_) (fun cdv A outer s H vs Q E hr h => ?_)
  · obtain ⟨d, p, h, rfl, _⟩ := h
    rfl
  · obtain ⟨d, p, h, rfl, hD, p0, p30, h2, h10, q⟩ := h
    refine ⟨_, pss_cons (ps_par (by rfl) sc_l_order.nd (i := 3) (j := 4) rfl rfl (by decide) rfl rfl
        (pa_cons (pe_call GB hr (by rfl) gB kB bB .nil pass0 (pa_cons (pv 0) (pa_cons (pv 2) pa_nil)))
          (pa_cons (pe_op op_add pe_int (pe_call GB hr (by rfl) gB kB bB .nil pass0 (pa_cons (pv 0) (pa_cons
            (pe_ix ix_list (pe_lst (pa_cons pe_int (pa_cons pe_int pa_nil))) (pe_call GB hr (by rfl) gB kB bB .nil pass0 (pa_cons (pv 0) (pa_cons pe_int pa_nil))) (fun _ _ => rfl)) pa_nil)))) pa_nil)) (by rfl))
      (pss_cons (ps_set (i := 5) sc_l_order.nd rfl (.inl rfl) (pe_op op_modN (pe_op op_add (pe_op op_add (pv 3) pe_int) (pe_call GB hr (by rfl) gB kB bB .nil pass0 (pa_cons (pv 0) (pa_cons (pe_op op_sub (pv 2) pe_int) pa_nil)))) (pv 2)))
      (pss_one (ps_ret (pe_tup (pa_cons (pv 3) (pa_cons (pv 5) (pa_cons (pe_call GB hr (by rfl) gB kB bB .nil pass0 (pa_cons (pv 0) (pa_cons (pv 1) pa_nil)))
        (pa_cons (pe_op op_add pe_int (pe_call GB hr (by rfl) gB kB bB .nil pass0 (pa_cons (pv 0) (pa_cons (pv 1) pa_nil)))) (pa_cons (pv 4) pa_nil))))))))), ?_⟩
    refine ⟨_, rfl, _, rfl, d, h, rfl, hD, by omega, by omega, fun H1 src hsrc b1 D1 => ?_⟩
    refine ⟨_, rfl, (by show 2 ≤ sizeLine; decide), fun l nl => ?_⟩
    have D1' := D1.but (same_upd (o := HO.lst [V.int 3, V.int 9]) nl)
    have ndl : d ≠ l := ne_of_none D1.som.choose_spec nl
    refine ⟨_, rfl, d, 2, rfl, D1', by decide, by decide, fun H2 b hb b2 D2 => ?_⟩
    have hl2 : H2 l = some (.lst [V.int 3, V.int 9]) := b2 l _ ndl.symm upd_same
    obtain ⟨m, hm, hm39⟩ : ∃ m : Nat, atI [V.int 3, V.int 9] (b : Int) = some (V.int m) ∧ (m = 3 ∨ m = 9) := by
      obtain ⟨v, h1, h2⟩ := two_at (x := V.int 3) (y := V.int 9) hb
      rcases h2 with h2 | h2
      · exact ⟨3, by rw [h1, h2]; rfl, .inl rfl⟩
      · exact ⟨9, by rw [h1, h2]; rfl, .inr rfl⟩
    refine ⟨l, _, _, _, rfl, rfl, SqL.of hl2, hm, ?_⟩
    refine ⟨d, m, rfl, D2, by omega, by omega, fun H3 dl hdl b3 D3 => ?_⟩
    refine ⟨_, _, rfl, rfl, _, _, rfl, ?_⟩
    refine ⟨_, rfl, _, _, rfl, rfl, _, rfl, _, rfl, _, _, rfl, rfl, d, h - 1, ?_, D3, by omega, by omega, fun H4 tt htt b4 D4 => ?_⟩
    · show [V.ref d, V.int ((h : Int) - 1)] = _
      rw [show (h : Int) - 1 = ((h - 1 : Nat) : Int) by omega]
    refine ⟨_, _, rfl, rfl, _, rfl, _, _, rfl, rfl, by omega, ?_⟩
    refine ⟨_, rfl, _, rfl, _, rfl, _, rfl, d, p, rfl, D4, by omega, by omega, fun H5 ff hff b5 D5 => ?_⟩
    refine ⟨_, rfl, _, rfl, d, p, rfl, D5, by omega, by omega, fun H6 nn hnn b6 D6 => ?_⟩
    refine ⟨_, _, rfl, rfl, _, rfl, (by show 5 ≤ sizeLine; decide), fun t nt => ?_⟩
    have e1 : ((src : Int) + 1 + (tt : Int)).fmod (h : Int) = (((src + 1 + tt) % h : Nat) : Int) := fmod_nat (src + 1 + tt) h
    have hb : But d H H6 := b1.trans ((But.new nl).trans (b2.trans (b3.trans (b4.trans (b5.trans b6)))))
    have hd6 := D6.som.choose_spec
    have ok : OdOk p h ⟨src, (src + 1 + tt) % h, ff, 1 + nn, 1 + dl⟩ := by
      refine ⟨hsrc, Nat.mod_lt _ (by omega), ?_, hff, by show 1 ≤ 1 + nn; omega, by show 1 + nn ≤ p; omega, by show 1 ≤ 1 + dl; omega, by show 1 + dl ≤ 9; omega⟩
      show src ≠ (src + 1 + tt) % h
      by_cases z : src + 1 + tt < h
      · rw [Nat.mod_eq_of_lt z]
        omega
      · rw [Nat.mod_eq_sub_mod (by omega), Nat.mod_eq_of_lt (by omega)]
        omega
    refine q _ t ⟨src, (src + 1 + tt) % h, ff, 1 + nn, 1 + dl⟩ ok (hb.trans (.new nt)) (D6.but (same_upd nt)) (hb.free hd6 nt) ?_
    rw [upd_same]
    show some (HO.tup [V.int src, V.int (((src : Int) + 1 + (tt : Int)).fmod (h : Int)), V.int ff, V.int (1 + (nn : Int)), V.int (1 + (dl : Int))]) = some (HO.tup [V.int src, V.int (((src + 1 + tt) % h : Nat) : Int), V.int ff, V.int ((1 + nn : Nat) : Int), V.int ((1 + dl : Nat) : Int)])
    rw [e1, Int.natCast_add 1 nn, Int.natCast_add 1 dl]
    rfl
end
/-! ### the parts of a net -/
def OrdAt (H : Hp) (v : V) (o : Od) : Prop := ∃ t, v = .ref t ∧ H t = some (.tup o.vs)
def TupKeep (H H' : Hp) : Prop := ∀ b xs, H b = some (.tup xs) → H' b = some (.tup xs)
theorem tk_of {H H' : Hp} (s : Same H H') : TupKeep H H' := fun b _ e => s b _ e
theorem But.tk {d : Addr} {H H' : Hp} (s : But d H H') (hd : DAt H d) : TupKeep H H' := fun b xs e => by
  obtain ⟨_, _, _, _, _, h3⟩ := hd
  exact s b _ (ne_of e h3 (by intro q; cases q)) e
theorem TupKeep.lst {H : Hp} {a : Addr} {xs : List V} {o : HO} (h : H a = some (.lst xs)) : TupKeep H (L2.upd H a o) := fun b ys e => by
  rw [upd_ne (ne_of e h (by intro q; cases q))]
  exact e
theorem But.updN {d p : Addr} {H H' : Hp} {o : HO} (s : But d H H') (h : H p = none) : But d H (L2.upd H' p o) := fun b u n e => by
  rw [upd_ne (ne_of_none e h)]
  exact s b u n e
theorem DAt.updN {d p : Addr} {H : Hp} {o : HO} (h : DAt H d) (n : d ≠ p) : DAt (L2.upd H p o) d := by
  obtain ⟨a, b, c, h1, h2, h3⟩ := h
  exact ⟨a, b, c, h1, h2, by rw [upd_ne n]; exact h3⟩
theorem TupKeep.trans {H H1 H2 : Hp} (a : TupKeep H H1) (b : TupKeep H1 H2) : TupKeep H H2 := fun c o e => b c o (a c o e)
theorem OrdAt.keep {H H' : Hp} {v : V} {o : Od} (k : TupKeep H H') (h : OrdAt H v o) : OrdAt H' v o := by
  obtain ⟨t, e, ht⟩ := h
  exact ⟨t, e, k _ _ ht⟩
theorem OrdsAt.keep {H H' : Hp} {ts : List V} {os : List Od} (k : TupKeep H H') (h : Paired (OrdAt H) ts os) : Paired (OrdAt H') ts os :=
  Paired.mapP h fun _ _ q => q.keep k
theorem Paired.snoc {α β : Type} {F : α → β → Prop} {x : α} {y : β} : ∀ {l1 : List α} {l2 : List β}, Paired F l1 l2 → F x y → Paired F (l1 ++ [x]) (l2 ++ [y])
  | _, _, .nil, q => .cons q .nil
  | _, _, .cons r t, q => .cons r (Paired.snoc t q)
theorem Paired.get? {α β : Type} {F : α → β → Prop} : ∀ {l1 : List α} {l2 : List β} {i : Nat} {y : β}, Paired F l1 l2 → l2[i]? = some y → ∃ x, l1[i]? = some x ∧ F x y
  | _, _, _, _, .nil, e => by simp at e
  | _, _, 0, _, .cons r _, e => by
    simp at e
    subst e
    exact ⟨_, rfl, r⟩
  | _, _, i + 1, y, .cons _ t, e => by
    obtain ⟨u, h1, h2⟩ := Paired.get? (i := i) (y := y) t (by simpa using e)
    exact ⟨u, by simpa using h1, h2⟩
structure NetOk (p h : Nat) (os : List Od) : Prop where
  p1 : 1 ≤ p
  p30 : p ≤ 30
  h1 : 1 ≤ h
  h10 : h ≤ 10
  len : os.length ≤ 20
  ok : ∀ o ∈ os, OdOk p h o
/-- the orders' tuple -/
def OrdsTup (H : Hp) (t : Addr) (os : List Od) : Prop := ∃ ts, H t = some (.tup ts) ∧ Paired (OrdAt H) ts os
theorem OrdsTup.keep {H H' : Hp} {t : Addr} {os : List Od} (k : TupKeep H H') (h : OrdsTup H t os) : OrdsTup H' t os := by
  obtain ⟨ts, h1, h2⟩ := h
  exact ⟨ts, k _ _ h1, OrdsAt.keep k h2⟩
def PartsAt (H : Hp) (a : Addr) (p h : Nat) (os : List Od) : Prop := ∃ t, H a = some (.tup [.int p, .int h, .ref t]) ∧ OrdsTup H t os
theorem PartsAt.keep {H H' : Hp} {a : Addr} {p h : Nat} {os : List Od} (k : TupKeep H H') (q : PartsAt H a p h os) : PartsAt H' a p h os := by
  obtain ⟨t, h1, h2⟩ := q
  exact ⟨t, k _ _ h1, h2.keep k⟩
abbrev s_l_small : Stmt := top 42
abbrev N_l_small : List Str := ["_law_d", "_law_period", "_law_houses", "_law_k"]
abbrev P_l_small : List Str := ["_law_d"]
theorem sc_l_small : FnScope N_l_small P_l_small (defScope s_l_small) := ⟨rfl, rfl, rfl, by decide +kernel, rfl, by decide +kernel, by decide +kernel⟩
/-! ### the parts of a small net -/
def spSmall : Sp := fun vs H Q _ => ∃ (d : Addr), vs = [.ref d] ∧ DAt H d ∧
  ∀ H' a p h os, NetOk p h os → (p ≤ 5 ∧ 2 ≤ h ∧ h ≤ 4 ∧ 1 ≤ os.length ∧ os.length ≤ 6) → But d H H' → DAt H' d → H a = none → PartsAt H' a p h os → Q (.ref a) H'
section
variable {P : Program} {w : World} {K : PySem.W.Frag} {mg : Str → Option Value} {base : Heap}
theorem ok_small {f : Addr} {fd : FuncData} (F : Fun K "_law_small" "_law_small" s_l_small f fd) (B : Blt mg) (DB : Df P w K mg base "_law_below" 2 P_l_below spBelow) (DO : Df P w K mg base "_law_order" 3 P_l_order spOrder) : FnOk P w K mg base CX0 4 f fd P_l_small spSmall := by
  obtain ⟨fB, fdB, gB, kB, bB, GB⟩ := DB
  obtain ⟨fO, fdO, gO, kO, bO, GO⟩ := DO
  refine F.ok sc_l_small (fun vs H Q E h => ?_) (fun cdv A outer s H vs Q E hr h => ?_)
  · obtain ⟨d, rfl, _⟩ := h
    rfl
  · obtain ⟨d, rfl, hD, q⟩ := h
    have hr1 : Room 2 _ := hr.mono (by decide)
    refine ⟨_, pss_cons (ps_asg (pe_tup (pa_cons (pe_op op_add pe_int (pe_call GB hr1 (by rfl) gB kB bB .nil pass0 (pa_cons (pv 0) (pa_cons pe_int pa_nil)))) (pa_cons (pe_op op_add pe_int (pe_call GB hr1 (by rfl) gB kB bB .nil pass0 (pa_cons (pv 0) (pa_cons pe_int pa_nil)))) pa_nil)))
        (pg_tup (by rfl) (pgs_cons (pg_name (i := 1) sc_l_small.nd rfl (.inr rfl)) (pgs_cons (pg_name (i := 2) sc_l_small.nd rfl (.inr rfl)) pgs_nil))))
      (pss_one (ps_ret (pe_tup (pa_cons (pv 1) (pa_cons (pv 2) (pa_cons (pe_callTy call_tuple_of (by rfl) B.tuple (by decide +kernel) (pa_cons
        (pe_lc (own := [("_law_k", 3)]) (g := gName 3) (tt := tYes) (by rfl) sc_l_small.nd (pi_range1 rfl B.range (pa_cons (pe_op op_add pe_int (pe_call GB hr1 (by rfl) gB kB bB .nil pass0 (pa_cons (pv 0) (pa_cons pe_int pa_nil)))) pa_nil))
          (blkOk_by (N := N_l_small) (sc := defScope s_l_small) (by decide +kernel)) (fun _ _ _ _ _ => pg_name (i := 3) sc_l_small.nd rfl (.inl rfl)) (fun _ _ _ _ _ => pts_nil)
          (fun _ _ _ _ _ => pe_call GO hr (by rfl) gO kO bO .nil pass0 (pa_cons (pv 0) (pa_cons (pv 1) (pa_cons (pv 2) pa_nil))))) pa_nil)) pa_nil)))))), ?_⟩
    refine ⟨_, rfl, d, 5, rfl, hD, by decide, by decide, fun H1 p0 hp0 b1 D1 => ?_⟩
    refine ⟨_, _, rfl, rfl, _, rfl, d, 3, rfl, D1, by decide, by decide, fun H2 h0 hh0 b2 D2 => ?_⟩
    refine ⟨_, _, rfl, rfl, (by show 2 ≤ sizeLine; decide), fun y ny => ?_⟩
    have s3 := same_upd (o := HO.tup [V.int (1 + (p0 : Int)), V.int (2 + (h0 : Int))]) ny
    refine ⟨y, _, rfl, SqT.of upd_same, rfl, _, _, rfl, _, _, rfl, rfl, ?_⟩
    have D3 := D2.but s3
    have B3 : But d H (upd H2 y (.tup [V.int (1 + (p0 : Int)), V.int (2 + (h0 : Int))])) := b1.trans (b2.trans (.of s3))
    generalize (upd H2 y (.tup [V.int (1 + (p0 : Int)), V.int (2 + (h0 : Int))])) = H3 at D3 B3
    have ep : V.int (1 + (p0 : Int)) = .int ((1 + p0 : Nat) : Int) := by rw [Int.natCast_add]; rfl
    have eh : V.int (2 + (h0 : Int)) = .int ((2 + h0 : Nat) : Int) := by rw [Int.natCast_add]; rfl
    simp only [ep, eh]
    generalize hp : 1 + p0 = p
    generalize hh : 2 + h0 = h
    refine ⟨_, rfl, _, rfl, _, rfl, d, 6, rfl, D3, by decide, by decide, fun H4 n hn b4 D4 => ⟨_, _, rfl, rfl, _, rfl, by omega, by omega, fun D nD => ?_⟩⟩
    have D4' := D4.but (same_upd (o := HO.lst []) nD)
    have ndD : d ≠ D := ne_of_none D4.som.choose_spec nD
    have B4 := B3.trans b4
    refine lc_range (lo := 0) (n := (1 + (n : Int)).toNat) (fun i H' => But d H H' ∧ DAt H' d ∧ ∃ (ts : List V) (os : List Od), H' D = some (.lst ts) ∧ ts.length = i ∧ Paired (OrdAt H') ts os ∧ ∀ o ∈ os, OdOk p h o)
      ⟨B4.trans (.new nD), D4', [], [], upd_same, rfl, .nil, fun _ z => by cases z⟩ ?_ ?_
    · rintro i H' hi ⟨bb, DD, ts, os, hDD, hlen, hP, hOk⟩
      refine ⟨rfl, ?_⟩
      refine ⟨_, rfl, _, rfl, _, rfl, d, p, h, rfl, DD, by omega, by omega, by omega, by omega, fun H2 t o hok b2 D2 nt ht => ?_⟩
      have hD2 := b2 D _ ndD.symm hDD
      have tk := b2.tk DD
      have ntD : t ≠ D := (ne_of_none hDD nt).symm
      refine ⟨ts, hD2, small1000 (by omega), (bb.trans b2).updN (B4.free D4.som.choose_spec nD), D2.updN ndD, ts ++ [.ref t], os ++ [o], upd_same, by rw [List.length_append, hlen]; rfl, ?_, ?_⟩
      · refine Paired.snoc (OrdsAt.keep (tk.trans (TupKeep.lst hD2)) hP) ⟨t, rfl, ?_⟩
        rw [upd_ne ntD]
        exact ht
      · intro o' ho'
        rcases List.mem_append.mp ho' with z | z
        · exact hOk o' z
        · rw [List.mem_singleton.mp z]
          exact hok
    · rintro H' ⟨bb, DD, ts, os, hDD, hlen, hP, hOk⟩
      have ho := hP.length
      refine ⟨D, ts, rfl, .inl ⟨SqL.of hDD, fun t nt => ?_⟩⟩
      refine ⟨(by show 3 ≤ sizeLine; decide), fun a na => ?_⟩
      have s1 := same_upd (o := HO.tup ts) nt
      have s2 := same_upd (o := HO.tup [V.int p, V.int h, V.ref t]) na
      refine q _ a p h os ⟨by omega, by omega, by omega, by omega, by omega, hOk⟩ ⟨by omega, by omega, by omega, by omega, by omega⟩ (bb.trans ((But.of s1).trans (.of s2))) (DD.but (s1.trans s2)) (bb.free DD.som.choose_spec (s1.free na)) ⟨t, upd_same, ts, ?_, OrdsAt.keep (tk_of (s1.trans s2)) hP⟩
      rw [upd_ne (ne_of_none (upd_same (H := H')) na), upd_same]
end
abbrev s_is_integer : Stmt := top 19
abbrev N_is_integer : List Str := ["value"]
abbrev P_is_integer : List Str := ["value"]
theorem sc_is_integer : FnScope N_is_integer P_is_integer (defScope s_is_integer) := ⟨rfl, rfl, rfl, by decide +kernel, rfl, by decide +kernel, by decide +kernel⟩
abbrev s_is_within : Stmt := top 20
abbrev N_is_within : List Str := ["value", "low", "high"]
abbrev P_is_within : List Str := ["value", "low", "high"]
theorem sc_is_within : FnScope N_is_within P_is_within (defScope s_is_within) := ⟨rfl, rfl, rfl, by decide +kernel, rfl, by decide +kernel, by decide +kernel⟩
abbrev s_is_order : Stmt := top 28
abbrev N_is_order : List Str := ["period", "houses", "order", "source", "target", "first", "days", "delay"]
abbrev P_is_order : List Str := ["period", "houses", "order"]
theorem sc_is_order : FnScope N_is_order P_is_order (defScope s_is_order) := ⟨rfl, rfl, rfl, by decide +kernel, rfl, by decide +kernel, by decide +kernel⟩
abbrev s_check_orders : Stmt := top 29
abbrev N_check_orders : List Str := ["period", "houses", "orders", "index", "order"]
abbrev P_check_orders : List Str := ["period", "houses", "orders"]
theorem sc_check_orders : FnScope N_check_orders P_check_orders (defScope s_check_orders) := ⟨rfl, rfl, rfl, by decide +kernel, rfl, by decide +kernel, by decide +kernel⟩
/-! ### is_within, is_order, check_orders -/
/-- a value that is no int (a bool, or a thing of another built-in type) -/
def NotInt (K : PySem.W.Frag) (H : Hp) (x : V) : Prop := (∃ b, x = .bl b) ∨ ∃ t, TyX K H x (.type t) ∧ kitB t "int" = some false
def Kn (K : PySem.W.Frag) (H : Hp) (x : V) : Prop := (∃ i, x = .int i) ∨ (NotInt K H x ∧ ∀ i, x ≠ .int i)
def withinB (x : V) (lo hi : Int) : Bool := match x with
  | .int v => decide (lo ≤ v) && decide (v ≤ hi)
  | _ => false
theorem Kn.int {K : PySem.W.Frag} {H : Hp} {i : Int} : Kn K H (.int i) := .inl ⟨i, rfl⟩
theorem withinB_no {x : V} {lo hi : Int} (h : ∀ i, x ≠ .int i) : withinB x lo hi = false := by
  unfold withinB
  split
  · rename_i v
    exact absurd rfl (h v)
  · rfl
def isIntB (x : V) : Bool := match x with
  | .int _ => true
  | _ => false
theorem isIntB_no {x : V} (h : ∀ i, x ≠ .int i) : isIntB x = false := by
  unfold isIntB
  split
  · rename_i v
    exact absurd rfl (h v)
  · rfl
def spIsInt (K : PySem.W.Frag) : Sp := fun vs H Q _ => ∃ (x : V), vs = [x] ∧ Kn K H x ∧ Q (.bl (isIntB x)) H
def spWithin (K : PySem.W.Frag) : Sp := fun vs H Q _ => ∃ (x : V) (lo hi : Int), vs = [x, .int lo, .int hi] ∧ Kn K H x ∧ Q (.bl (withinB x lo hi)) H
section
variable {P : Program} {w : World} {K : PySem.W.Frag} {mg : Str → Option Value} {base : Heap}
theorem ok_isint {f : Addr} {fd : FuncData} (F : Fun K "is_integer" "is_integer" s_is_integer f fd) (B : Blt mg) : FnOk P w K mg base CX0 1 f fd P_is_integer (spIsInt K) := by
  refine F.ok sc_is_integer (fun vs H Q E h => ?_) (fun cdv A outer s H vs Q E hr h => ?_)
  · obtain ⟨x, rfl, _⟩ := h
    rfl
  · obtain ⟨x, rfl, hk, q⟩ := h
    refine ⟨_, pss_one (ps_ret (pe_and (pe_callB call_isi (by rfl) B.isi PyProof.Rows.boot_isinstance (pa_cons (pv 0) (pa_cons (pe_bltn (v := .ty "int") (by rfl) B.int (by decide +kernel) rfl) pa_nil)))
      (pe_one (pe_not (pe_callB call_isi (by rfl) B.isi PyProof.Rows.boot_isinstance (pa_cons (pv 0) (pa_cons (pe_bltn (v := .ty "bool") (by rfl) B.bool (by decide +kernel) rfl) pa_nil))))))), ?_⟩
    rcases hk with ⟨v, rfl⟩ | ⟨⟨b, rfl⟩ | ⟨t, ty, kt⟩, hne⟩
    · refine ⟨_, rfl, _, _, _, _, true, rfl, .ty "int", .base (.int v), kit_ty (by decide +kernel), _, rfl, iteT ?_⟩
      exact ⟨_, rfl, _, _, _, _, false, rfl, .ty "bool", .base (.int v), kit_ty (by decide +kernel), _, rfl, q⟩
    · refine ⟨_, rfl, _, _, _, _, true, rfl, .ty "int", .base (.bl b), kit_ty (by decide +kernel), _, rfl, iteT ?_⟩
      exact ⟨_, rfl, _, _, _, _, true, rfl, .ty "bool", .base (.bl b), kit_ty (by decide +kernel), _, rfl, q⟩
    · rw [isIntB_no hne] at q
      exact ⟨_, rfl, _, _, _, _, false, rfl, .ty "int", ty, kit_ty kt, _, rfl, iteF q⟩
theorem ok_within {f : Addr} {fd : FuncData} (F : Fun K "is_within" "is_within" s_is_within f fd) (DI : Df P w K mg base "is_integer" 1 P_is_integer (spIsInt K)) : FnOk P w K mg base CX0 2 f fd P_is_within (spWithin K) := by
  obtain ⟨fI, fdI, gI, KI, bI, GI⟩ := DI
  refine F.ok sc_is_within (fun vs H Q E h => ?_) (fun cdv A outer s H vs Q E hr h => ?_)
  · obtain ⟨x, lo, hi, rfl, _⟩ := h
    rfl
  · obtain ⟨x, lo, hi, rfl, hk, q⟩ := h
    refine ⟨_, pss_one (ps_ret (pe_and (pe_call GI hr (by rfl) gI KI bI .nil pass0 (pa_cons (pv 0) pa_nil))
      (pe_one (pe_chain op_le op_le (pv 1) (pv 0) (pv 2))))), ?_⟩
    refine ⟨_, rfl, x, rfl, hk, ?_⟩
    cases x with
    | int v =>
      refine ⟨_, rfl, iteT ?_⟩
      refine ⟨_, rfl, _, rfl, _, _, rfl, rfl, _, rfl, ite2 (fun e => ?_) (fun e => ?_)⟩
      · refine ⟨_, rfl, _, _, rfl, rfl, ?_⟩
        have q2 : Q (.bl (decide (lo ≤ v) && decide (v ≤ hi))) H := q
        rw [e, Bool.true_and] at q2
        exact q2
      · have q2 : Q (.bl (decide (lo ≤ v) && decide (v ≤ hi))) H := q
        rw [Bool.eq_false_iff.mpr e, Bool.false_and] at q2
        exact q2
    | _ => exact ⟨_, rfl, iteF q⟩
end
/-- what is_order says of the values of a tuple -/
def orderB (p h : Int) : List V → Bool
  | [s, t, f, n, e] => withinB s 0 (h - 1) && (withinB t 0 (h - 1) && (!decide (s = t) && (withinB f 0 (p - 1) && (withinB n 1 p && withinB e 1 9))))
  | _ => false
theorem within_nat {v lo hi : Nat} (h1 : lo ≤ v) (h2 : v ≤ hi) : withinB (.int v) lo hi = true := by
  show (decide ((lo : Int) ≤ v) && decide ((v : Int) ≤ hi)) = true
  rw [decide_eq_true (by omega), decide_eq_true (by omega)]
  rfl
theorem orderB_ok {p h : Nat} {o : Od} (k : OdOk p h o) : orderB p h o.vs = true := by
  have a1 := k.s; have a2 := k.t; have a3 := k.st; have a4 := k.f; have a5 := k.n1; have a6 := k.n; have a7 := k.e1; have a8 := k.e
  show (withinB (.int o.s) 0 ((h : Int) - 1) && (withinB (.int o.t) 0 ((h : Int) - 1) && (!decide (V.int o.s = V.int o.t) && (withinB (.int o.f) 0 ((p : Int) - 1) && (withinB (.int o.n) 1 p && withinB (.int o.e) 1 9))))) = true
  have e1 : ((h : Int) - 1) = ((h - 1 : Nat) : Int) := by omega
  have e2 : ((p : Int) - 1) = ((p - 1 : Nat) : Int) := by omega
  rw [e1, e2]
  have b1 : withinB (.int o.s) 0 ((h - 1 : Nat) : Int) = true := within_nat (lo := 0) (by omega) (by omega)
  have b2 : withinB (.int o.t) 0 ((h - 1 : Nat) : Int) = true := within_nat (lo := 0) (by omega) (by omega)
  have b3 : withinB (.int o.f) 0 ((p - 1 : Nat) : Int) = true := within_nat (lo := 0) (by omega) (by omega)
  have b4 : withinB (.int o.n) 1 p = true := within_nat (lo := 1) (by omega) (by omega)
  have b5 : withinB (.int o.e) 1 9 = true := within_nat (lo := 1) (hi := 9) (by omega) (by omega)
  have b6 : decide (V.int (o.s : Int) = V.int o.t) = false := decide_eq_false fun z => a3 (by
    have z2 := V.int.inj z
    omega)
  rw [b1, b2, b3, b4, b5, b6]
  rfl
/-- what may be asked whether it is an order: a tuple of known values, or a thing that is no tuple -/
def OrderLike (K : PySem.W.Frag) (H : Hp) (v : V) (p h : Int) (b : Bool) : Prop :=
  (∃ a xs, v = .ref a ∧ H a = some (.tup xs) ∧ (∀ x ∈ xs, Kn K H x) ∧ b = orderB p h xs) ∨ (∃ t, TyX K H v (.type t) ∧ kitB t "tuple" = some false ∧ b = false)
theorem OrdAt.like {K : PySem.W.Frag} {H : Hp} {v : V} {o : Od} {p h : Nat} (k : OdOk p h o) (q : OrdAt H v o) : OrderLike K H v p h true := by
  obtain ⟨t, rfl, ht⟩ := q
  refine .inl ⟨t, _, rfl, ht, fun x hx => ?_, (orderB_ok k).symm⟩
  unfold Od.vs at hx
  simp only [List.mem_cons, List.not_mem_nil, or_false] at hx
  rcases hx with rfl | rfl | rfl | rfl | rfl <;> exact Kn.int
theorem withinB_int {x : V} {lo hi : Int} (h : withinB x lo hi = true) : ∃ i, x = .int i := by
  cases x <;> first
    | exact ⟨_, rfl⟩
    | cases h
def spIsOrder (K : PySem.W.Frag) : Sp := fun vs H Q _ => ∃ (v : V) (p h : Int) (b : Bool), vs = [.int p, .int h, v] ∧ OrderLike K H v p h b ∧ Q (.bl b) H
section
variable {P : Program} {w : World} {K : PySem.W.Frag} {mg : Str → Option Value} {base : Heap}
theorem ok_is_order {f : Addr} {fd : FuncData} (F : Fun K "is_order" "is_order" s_is_order f fd) (B : Blt mg) (DW : Df P w K mg base "is_within" 2 P_is_within (spWithin K)) (hM : ∃ t, mg "LONGEST_DELAY" = some (.int 9 t)) : FnOk P w K mg base CX0 3 f fd P_is_order (spIsOrder K) := by
  obtain ⟨fW, fdW, gW, kW, bW, GW⟩ := DW
  obtain ⟨tk9, hM⟩ := hM
  refine F.ok sc_is_order (fun vs H Q E h => ?_) (fun cdv A outer s H vs Q E hr h => ?_)
  · obtain ⟨v, p, h, b, rfl, _⟩ := h
    rfl
  · obtain ⟨v, p, h, b, rfl, hl, q⟩ := h
    refine ⟨_, pss_cons (ps_if (PW.pt (pw_or (pt_not (pt_val (pe_callB call_isi (by rfl) B.isi PyProof.Rows.boot_isinstance (pa_cons (pv 2) (pa_cons (pe_bltn (v := .ty "tuple") (by rfl) B.tuple (by decide +kernel) rfl) pa_nil)))))
        (pw_or1 (pt_cmpR op_ne (pe_callB call_len_seq (by rfl) B.len PySem.boot_len (pa_cons (pv 2) pa_nil)) pe_int (nomark _))))) (pss_one (ps_ret pe_bl)) pss_nil)
      (pss_cons (ps_asg (pv 2) (pg_tup (by rfl) (pgs_cons (pg_name (i := 3) sc_is_order.nd rfl (.inl rfl)) (pgs_cons (pg_name (i := 4) sc_is_order.nd rfl (.inl rfl)) (pgs_cons (pg_name (i := 5) sc_is_order.nd rfl (.inl rfl))
        (pgs_cons (pg_name (i := 6) sc_is_order.nd rfl (.inl rfl)) (pgs_cons (pg_name (i := 7) sc_is_order.nd rfl (.inl rfl)) pgs_nil)))))))
      (pss_cons (ps_if (pt_not (PW.pt (pw_and (pt_val (pe_call GW hr (by rfl) gW kW bW .nil pass0 (pa_cons (pv 3) (pa_cons pe_int (pa_cons (pe_op op_sub (pv 1) pe_int) pa_nil)))))
        (pw_and (pt_val (pe_call GW hr (by rfl) gW kW bW .nil pass0 (pa_cons (pv 4) (pa_cons pe_int (pa_cons (pe_op op_sub (pv 1) pe_int) pa_nil)))))
          (pw_and1 (pt_cmpR op_ne (pv 3) (pv 4) (nomark _))))))) (pss_one (ps_ret pe_bl)) pss_nil)
      (pss_one (ps_ret (pe_and (pe_call GW hr (by rfl) gW kW bW .nil pass0 (pa_cons (pv 5) (pa_cons pe_int (pa_cons (pe_op op_sub (pv 0) pe_int) pa_nil))))
        (pe_and (pe_call GW hr (by rfl) gW kW bW .nil pass0 (pa_cons (pv 6) (pa_cons pe_int (pa_cons (pv 0) pa_nil))))
          (pe_one (pe_call GW hr (by rfl) gW kW bW .nil pass0 (pa_cons (pv 7) (pa_cons pe_int (pa_cons (pe_glob (v := .int 9) rfl hM ⟨_, rfl⟩) pa_nil))))))))))), ?_⟩
    rcases hl with ⟨a, xs, rfl, ha, hkn, rfl⟩ | ⟨t, ty, kt, rfl⟩
    · refine ⟨_, rfl, _, _, _, _, true, rfl, .ty "tuple", .base (.tup ha), kit_ty (by decide +kernel), _, rfl, iteF ?_⟩
      refine ⟨_, rfl, a, xs, rfl, .inr (SqT.of ha), rfl, _, rfl, ?_⟩
      refine ite2 (fun e => ?_) (fun e => ?_)
      · have hne : orderB p h xs = false := by
          match xs, e with
          | [], _ => rfl
          | [_], _ => rfl
          | [_, _], _ => rfl
          | [_, _, _], _ => rfl
          | [_, _, _, _], _ => rfl
          | [_, _, _, _, _], e => exact absurd e (by show ¬ (!decide (V.int ((5 : Nat) : Int) = V.int 5)) = true; decide)
          | _ :: _ :: _ :: _ :: _ :: _ :: _, _ => rfl
        rw [hne] at q
        exact q
      · have h5 : xs.length = 5 := by
          by_cases z : xs.length = 5
          · exact z
          · exact absurd (show (!decide (V.int (xs.length : Int) = V.int 5)) = true by
              rw [decide_eq_false (fun z2 => z (by have z3 := V.int.inj z2; omega))]
              rfl) e
        match xs, h5 with
        | [x1, x2, x3, x4, x5], _ =>
          have k1 := hkn x1 (by simp)
          have k2 := hkn x2 (by simp)
          have k3 := hkn x3 (by simp)
          have k4 := hkn x4 (by simp)
          have k5 := hkn x5 (by simp)
          refine ⟨_, rfl, a, _, rfl, SqT.of ha, rfl, _, _, rfl, _, _, rfl, _, _, rfl, _, _, rfl, _, _, rfl, rfl, ?_⟩
          have q2 : Q (.bl (withinB x1 0 (h - 1) && (withinB x2 0 (h - 1) && (!decide (x1 = x2) && (withinB x3 0 (p - 1) && (withinB x4 1 p && withinB x5 1 9)))))) H := q
          refine ⟨_, rfl, _, rfl, _, _, rfl, rfl, x1, 0, h - 1, rfl, k1, _, rfl, ite2 (fun e1 => ?_) (fun e1 => ?_)⟩
          · refine ⟨_, rfl, _, rfl, _, _, rfl, rfl, x2, 0, h - 1, rfl, k2, _, rfl, ite2 (fun e2 => ?_) (fun e2 => ?_)⟩
            · obtain ⟨i1, rfl⟩ := withinB_int e1
              obtain ⟨i2, rfl⟩ := withinB_int e2
              rw [e1, e2, Bool.true_and, Bool.true_and] at q2
              refine ⟨_, rfl, _, rfl, rfl, _, rfl, ?_⟩
              by_cases z : V.int i1 = V.int i2
              · rw [decide_eq_true z] at q2
                rw [decide_eq_true z]
                exact q2
              · rw [decide_eq_false z, Bool.not_false, Bool.true_and] at q2
                rw [decide_eq_false z]
                refine ⟨_, rfl, _, rfl, _, _, rfl, rfl, x3, 0, p - 1, rfl, k3, _, rfl, ite2 (fun e3 => ?_) (fun e3 => ?_)⟩
                · rw [e3, Bool.true_and] at q2
                  refine ⟨_, rfl, _, rfl, x4, 1, p, rfl, k4, _, rfl, ite2 (fun e4 => ?_) (fun e4 => ?_)⟩
                  · rw [e4, Bool.true_and] at q2
                    exact ⟨_, rfl, x5, 1, 9, rfl, k5, q2⟩
                  · rw [Bool.eq_false_iff.mpr e4, Bool.false_and] at q2
                    exact q2
                · rw [Bool.eq_false_iff.mpr e3, Bool.false_and] at q2
                  exact q2
            · rw [e1, Bool.eq_false_iff.mpr e2, Bool.true_and, Bool.false_and] at q2
              exact iteT q2
          · rw [Bool.eq_false_iff.mpr e1, Bool.false_and] at q2
            exact iteT q2
    · exact ⟨_, rfl, _, _, _, _, false, rfl, .ty "tuple", ty, kit_ty kt, _, rfl, iteT q⟩
end
/-! ### walks over an enumerated tuple; check_orders for valid nets; find_followed -/
theorem for_enumT {K : PySem.W.Frag} {a : Addr} {xs : List V} {g : TG} {tb : TS} {D : Ends} {σ : L2.St} {H : Hp} (Pv : Nat → L2.St → Hp → Prop) (h0 : Pv 0 σ H) (hl : ∀ i σ H, Pv i σ H → H a = some (.tup xs))
    (hs : ∀ i x σ H T, xs[i]? = some x → Pv i σ H → H T = none → g (.ref T) σ (upd H T (.tup [.int (i : Nat), x])) fun σ2 H2 => tb { D with nx := Pv (i + 1), ct := Pv (i + 1), bk := D.nx } σ2 H2) (hd : ∀ σ H, Pv xs.length σ H → D.nx σ H) :
    ∃ W : Nat → Nat → L2.St → Hp → Prop, (∃ m, W 0 m σ H) ∧ ∀ i m σ H, W i m σ H →
      ((IteT K a).stop i H ∧ D.nx σ H) ∨ ((IteT K a).go i H ∧ ∃ N : L2.St → Hp → Prop, (∀ σ' H', N σ' H' → ∃ m', m' < m ∧ W (i + 1) m' σ' H') ∧ ∀ x H', (IteT K a).yld i H x H' → g x σ H' fun σ2 H2 => tb { D with nx := N, ct := N, bk := D.nx } σ2 H2) := by
  refine ⟨fun i m σ H => m = xs.length - i ∧ i ≤ xs.length ∧ Pv i σ H, ⟨xs.length, rfl, Nat.zero_le _, h0⟩, ?_⟩
  rintro i m σ H ⟨rfl, hi, p⟩
  have q := hl i σ H p
  by_cases hlt : i < xs.length
  · refine .inr ⟨⟨xs, xs[i], SqT.of q, List.getElem?_eq_getElem hlt⟩, Pv (i + 1), fun σ' H' p' => ⟨xs.length - (i + 1), by omega, rfl, hlt, p'⟩, fun x H' y => ?_⟩
    obtain ⟨T, x', rfl, nT, rfl, f⟩ := y
    obtain rfl : x' = xs[i] := Option.some.inj ((f xs (SqT.of q)).symm.trans (List.getElem?_eq_getElem hlt))
    exact hs i _ σ H T (List.getElem?_eq_getElem hlt) p nT
  · refine .inl ⟨⟨xs, SqT.of q, by omega⟩, hd σ H ?_⟩
    rw [show xs.length = i by omega]
    exact p
def spChkOrders : Sp := fun vs H Q _ => ∃ (t : Addr) (p h : Nat) (os : List Od), vs = [.int p, .int h, .ref t] ∧ NetOk p h os ∧ OrdsTup H t os ∧ ∀ H', Same H H' → Q .non H'
section
variable {P : Program} {w : World} {K : PySem.W.Frag} {mg : Str → Option Value} {base : Heap}
theorem ok_chk_orders {f : Addr} {fd : FuncData} (F : Fun K "check_orders" "check_orders" s_check_orders f fd) (B : Blt mg) (DI : Df P w K mg base "is_order" 3 P_is_order (spIsOrder K)) (hM : ∃ t, mg "MOST_ORDERS" = some (.int 20 t)) : FnOk P w K mg base CX0 4 f fd P_check_orders spChkOrders := by
  obtain ⟨fI, fdI, gI, kI, bI, GI⟩ := DI
  obtain ⟨tk20, hM⟩ := hM
  refine F.ok sc_check_orders (fun vs H Q E h => ?_) (fun cdv A outer s H vs Q E hr h => ?_)
  · obtain ⟨t, p, h, os, rfl, _⟩ := h
    rfl
  · obtain ⟨t, p, h, os, rfl, N, ⟨ts, ht, hP⟩, q⟩ := h
    refine ⟨_, pss_cons (ps_if (pt_not (pt_val (pe_callB call_isi (by rfl) B.isi PyProof.Rows.boot_isinstance (pa_cons (pv 2) (pa_cons (pe_bltn (v := .ty "tuple") (by rfl) B.tuple (by decide +kernel) rfl) pa_nil))))) (pss_one ps_never) pss_nil)
      (pss_one (ps_for PassesOwn.never rfl (pi_enumT (by rfl) B.enum (pa_cons (pv 2) pa_nil)) (pg_tup (by rfl) (pgs_cons (pg_name (i := 3) sc_check_orders.nd rfl (.inl rfl)) (pgs_cons (pg_name (i := 4) sc_check_orders.nd rfl (.inl rfl)) pgs_nil)))
        (pss_one (ps_if (PW.pt (pw_or (pt_cmpR op_eq (pv 3) (pe_glob (v := .int 20) rfl hM ⟨_, rfl⟩) (nomark _)) (pw_or1 (pt_not (pt_val (pe_call GI hr (by rfl) gI kI bI .nil pass0 (pa_cons (pv 0) (pa_cons (pv 1) (pa_cons (pv 4) pa_nil)))))))))
          (pss_one ps_never) pss_nil)))), ?_⟩
    refine ⟨_, rfl, _, _, _, _, true, rfl, .ty "tuple", .base (.tup ht), kit_ty (by decide +kernel), _, rfl, iteF ?_⟩
    refine ⟨_, rfl, t, ts, rfl, ht, for_enumT (K := K) (a := t) (xs := ts) (fun i σ H' => (∃ x y, σ = [some (.int p), some (.int h), some (.ref t), x, y]) ∧ Same H H') ⟨⟨_, _, rfl⟩, .refl H⟩ (fun i σ H' ⟨_, s1⟩ => s1 _ _ ht) ?_ ?_⟩
    · rintro i x σ H1 T hi ⟨⟨x3, x4, rfl⟩, s1⟩ nT
      have s2 := same_upd (o := HO.tup [.int (i : Nat), x]) nT
      have hil : i < ts.length := (List.getElem?_eq_some_iff.mp hi).1
      have hlen := hP.length
      have hlen2 := N.len
      refine ⟨T, _, rfl, SqT.of upd_same, rfl, _, _, rfl, _, _, rfl, rfl, ?_⟩
      refine ⟨_, rfl, rfl, _, rfl, ?_⟩
      have e1 : decide (V.int ((i : Nat) : Int) = V.int 20) = false := decide_eq_false fun z => by
        have z2 := V.int.inj z
        omega
      rw [e1]
      obtain ⟨x', hx', ho⟩ := Paired.get? (i := i) hP (List.getElem?_eq_getElem (by omega))
      obtain rfl : x' = x := Option.some.inj (hx'.symm.trans hi)
      have hk := N.ok _ (List.getElem_mem (by omega : i < os.length))
      exact iteF ⟨_, rfl, _, rfl, _, rfl, x', p, h, true, rfl, OrdAt.like hk (ho.keep (tk_of (s1.trans s2))), _, rfl, iteF ⟨⟨_, _, rfl⟩, s1.trans s2⟩⟩
    · rintro σ H1 ⟨_, s1⟩
      exact q H1 s1
end
/-! the table of the orders that are followed -/
def amongB (p f : Nat) : Nat → Nat → Bool
  | 0, _ => false
  | l + 1, d => amongB p f l d || decide ((f + l) % p = d)
theorem amongB_iff {p f d : Nat} : ∀ l, amongB p f l d = true ↔ among p f l d
  | 0 => ⟨fun h => Bool.noConfusion h, fun h => absurd h (among_zero _ _ _)⟩
  | l + 1 => by
    show (amongB p f l d || decide ((f + l) % p = d)) = true ↔ _
    rw [among_succ, Bool.or_eq_true, amongB_iff l, decide_eq_true_iff]
def cellV (p : Nat) (os : List Od) (s d : Nat) : V := optV (idx p os s (d : Int))
/-- amid the order o, the k-th: its first l days are done -/
def cellM (p : Nat) (os : List Od) (o : Od) (k l s d : Nat) : V := optV ((idx p os s (d : Int)).or (if (decide (s = o.s) && amongB p o.f l d) = true then some k else none))
structure TabAt (H0 H : Hp) (fl : Addr) (p h : Nat) (g : Nat → Nat → V) (as : List Addr) : Prop where
  same : Same H0 H
  len : as.length = h
  fl0 : H0 fl = none
  flat : H fl = some (.lst (as.map V.ref))
  nd : as.Nodup
  out : fl ∉ as
  new : ∀ a ∈ as, H0 a = none
  row : ∀ i a, as[i]? = some a → H a = some (.lst ((List.range p).map (g i)))
theorem TabAt.congr {H0 H : Hp} {fl : Addr} {p h : Nat} {g g' : Nat → Nat → V} {as : List Addr} (T : TabAt H0 H fl p h g as) (e : ∀ s d, s < h → d < p → g s d = g' s d) : TabAt H0 H fl p h g' as := by
  refine { T with row := fun i a hi => ?_ }
  rw [T.row i a hi]
  have hi2 := (List.getElem?_eq_some_iff.mp hi).1
  rw [List.map_congr_left fun d hd => e i d (by rw [← T.len]; exact hi2) (List.mem_range.mp hd)]
theorem TabAt.keep {H0 H H' : Hp} {fl : Addr} {p h : Nat} {g : Nat → Nat → V} {as : List Addr} (T : TabAt H0 H fl p h g as) (s : Same H H') : TabAt H0 H' fl p h g as :=
  { T with same := T.same.trans s, flat := s _ _ T.flat, row := fun i a hi => s _ _ (T.row i a hi) }
theorem range_set {p dd : Nat} {g : Nat → V} {v : V} : ((List.range p).map g).set dd v = (List.range p).map fun d => if d = dd then v else g d := by
  apply List.ext_getElem
  · simp
  · intro i h1 h2
    rw [List.getElem_set]
    simp only [List.getElem_map, List.getElem_range]
    by_cases z : dd = i
    · subst z; simp
    · rw [if_neg z, if_neg (Ne.symm z)]
theorem TabAt.set {H0 H : Hp} {fl a : Addr} {p h s dd : Nat} {g : Nat → Nat → V} {as : List Addr} {v : V} (T : TabAt H0 H fl p h g as) (ha : as[s]? = some a) :
    TabAt H0 (upd H a (.lst (((List.range p).map (g s)).set dd v))) fl p h (fun i d => if i = s ∧ d = dd then v else g i d) as := by
  have ham : a ∈ as := List.mem_of_getElem? ha
  have sl : s < as.length := (List.getElem?_eq_some_iff.mp ha).1
  refine { T with same := fun b o e => ?_, flat := ?_, row := fun i b hi => ?_ }
  · have n : b ≠ a := fun z => by
      have q := T.new a ham
      rw [← z, e] at q
      cases q
    rw [upd_ne n]
    exact T.same _ _ e
  · have n : fl ≠ a := fun z => T.out (by rw [z]; exact ham)
    rw [upd_ne n]
    exact T.flat
  · by_cases z : i = s
    · subst z
      obtain rfl : b = a := Option.some.inj (hi.symm.trans ha)
      rw [upd_same, range_set]
      congr 2
      apply List.map_congr_left
      intro d _
      by_cases z2 : d = dd
      · simp [z2]
      · simp [z2]
    · have n : b ≠ a := fun z2 => by
        subst z2
        have i1 := (List.getElem?_eq_some_iff.mp hi)
        have i2 := (List.getElem?_eq_some_iff.mp ha)
        obtain ⟨l1, e1⟩ := i1
        obtain ⟨l2, e2⟩ := i2
        have pw := List.pairwise_iff_getElem.mp T.nd
        rcases Nat.lt_or_gt_of_ne z with q | q
        · exact pw i s l1 l2 q (e1.trans e2.symm)
        · exact pw s i l2 l1 q (e2.trans e1.symm)
      rw [upd_ne n, T.row i b hi]
      congr 2
      apply List.map_congr_left
      intro d _
      rw [if_neg (fun q => z q.1)]
def spFollowed : Sp := fun vs H Q _ => ∃ (t : Addr) (p h : Nat) (os : List Od), vs = [.int p, .int h, .ref t] ∧ NetOk p h os ∧ OrdsTup H t os ∧ ∀ H' fl as, TabAt H H' fl p h (cellV p os) as → Q (.ref fl) H'
theorem rep_flat {p : Nat} {v : V} : (List.replicate p [v]).flatten = List.replicate p v := by
  induction p with
  | zero => rfl
  | succ n ih => rw [List.replicate_succ, List.flatten_cons, ih]; rfl
theorem rep_range {p : Nat} {v : V} : List.replicate p v = (List.range p).map fun _ => v := by
  rw [List.map_const', List.length_range]
theorem optV_non {o : Option Nat} (h : optV o = .non) : o = none := by
  cases o with
  | none => rfl
  | some k => cases h
theorem cellM_hit {p i l s d : Nat} {os : List Od} {o : Od} (h : cellM p os o i l o.s ((o.f + l) % p) = .non) :
    (if s = o.s ∧ d = (o.f + l) % p then V.int (i : Nat) else cellM p os o i l s d) = cellM p os o i (l + 1) s d := by
  unfold cellM at *
  by_cases c : s = o.s ∧ d = (o.f + l) % p
  · rw [if_pos c]
    obtain ⟨c1, c2⟩ := c
    subst c1 c2
    have z := optV_non h
    rw [Option.or_eq_none_iff] at z
    rw [z.1]
    have e : (decide (o.s = o.s) && amongB p o.f (l + 1) ((o.f + l) % p)) = true := by
      rw [decide_eq_true rfl, Bool.true_and]
      exact (amongB_iff (l + 1)).mpr (among_succ.mpr (.inr rfl))
    rw [if_pos e]
    rfl
  · rw [if_neg c]
    have e : (decide (s = o.s) && amongB p o.f l d) = (decide (s = o.s) && amongB p o.f (l + 1) d) := by
      by_cases c1 : s = o.s
      · have c2 : ¬ (o.f + l) % p = d := fun z => c ⟨c1, z.symm⟩
        show _ = (_ && (amongB p o.f l d || decide ((o.f + l) % p = d)))
        rw [decide_eq_false c2, Bool.or_false]
      · rw [decide_eq_false c1, Bool.false_and, Bool.false_and]
    rw [e]
theorem cellM_miss {p i l s d : Nat} {os : List Od} {o : Od} (h : cellM p os o i l o.s ((o.f + l) % p) ≠ .non) : cellM p os o i l s d = cellM p os o i (l + 1) s d := by
  by_cases c : s = o.s ∧ d = (o.f + l) % p
  · obtain ⟨c1, c2⟩ := c
    subst c1 c2
    unfold cellM at *
    have e : (decide (o.s = o.s) && amongB p o.f (l + 1) ((o.f + l) % p)) = true := by
      rw [decide_eq_true rfl, Bool.true_and]
      exact (amongB_iff (l + 1)).mpr (among_succ.mpr (.inr rfl))
    rw [if_pos e]
    cases q : idx p os o.s ((o.f + l) % p : Nat) with
    | some k => rfl
    | none =>
      rw [q] at h
      by_cases c : (decide (o.s = o.s) && amongB p o.f l ((o.f + l) % p)) = true
      · rw [if_pos c]
      · rw [if_neg c] at h
        exact absurd rfl h
  · unfold cellM
    have e : (decide (s = o.s) && amongB p o.f l d) = (decide (s = o.s) && amongB p o.f (l + 1) d) := by
      by_cases c1 : s = o.s
      · have c2 : ¬ (o.f + l) % p = d := fun z => c ⟨c1, z.symm⟩
        show _ = (_ && (amongB p o.f l d || decide ((o.f + l) % p = d)))
        rw [decide_eq_false c2, Bool.or_false]
      · rw [decide_eq_false c1, Bool.false_and, Bool.false_and]
    rw [e]
theorem cellM_end {p h i s d : Nat} {os : List Od} {o : Od} (k : OdOk p h o) (hi : os[i]? = some o) (hd : d < p) : cellM p (os.take i) o i o.n s d = cellV p (os.take (i + 1)) s d := by
  unfold cellM cellV
  rw [idx_take_succ hi]
  have e : (decide (s = o.s) && amongB p o.f o.n d) = hit p s (d : Int) o := by
    unfold hit
    have e1 : amongB p o.f o.n d = onDay p o (d : Int) := by
      rw [Bool.eq_iff_iff, amongB_iff, among_on k hd]
    rw [e1]
    by_cases c : s = o.s
    · rw [decide_eq_true c, decide_eq_true c.symm]
    · rw [decide_eq_false c, decide_eq_false fun z => c z.symm]
  rw [e]
abbrev s_find_followed : Stmt := top 32
abbrev N_find_followed : List Str := ["period", "houses", "orders", "followed", "index", "source", "target", "first", "days", "delay", "later", "day", "house"]
abbrev P_find_followed : List Str := ["period", "houses", "orders"]
theorem sc_find_followed : FnScope N_find_followed P_find_followed (defScope s_find_followed) := ⟨rfl, rfl, rfl, by decide +kernel, rfl, by decide +kernel, by decide +kernel⟩
section
variable {P : Program} {w : World} {K : PySem.W.Frag} {mg : Str → Option Value} {base : Heap}
theorem ok_followed {f : Addr} {fd : FuncData} (F : Fun K "find_followed" "find_followed" s_find_followed f fd) (B : Blt mg) : FnOk P w K mg base CX0 2 f fd P_find_followed spFollowed := by
  refine F.ok sc_find_followed (fun vs H Q E h => ?_) (fun cdv A outer s H vs Q E hr h => ?_)
  · obtain ⟨t, p, h, os, rfl, _⟩ := h
    rfl
  · obtain ⟨t, p, h, os, rfl, N, hO, q⟩ := h
    obtain ⟨ts, ht, hP⟩ := id hO
    have p1 := N.p1; have p30 := N.p30; have h1 := N.h1; have h10 := N.h10; have ol := N.len
    refine ⟨_, pss_cons (ps_setLc (i := 3) (own := [("house", 12)]) (g := gName 12) (tt := tYes) (by rfl) sc_find_followed.nd rfl rfl (sw_true rfl rfl rfl (by decide +kernel))
          (pi_range1 rfl B.range (pa_cons (pv 1) pa_nil)) (blkOk_by (N := N_find_followed) (sc := defScope s_find_followed) (by decide +kernel)) (fun _ _ _ _ _ => pg_name (i := 12) sc_find_followed.nd rfl (.inl rfl)) (fun _ _ _ _ _ => pts_nil)
          (fun _ _ _ _ _ => pe_op op_rep (pe_lst (pa_cons pe_non pa_nil)) (pv 0)))
      (pss_cons (ps_for PassesOwn.never rfl (pi_enumT (by rfl) B.enum (pa_cons (pv 2) pa_nil)) (pg_tup (by rfl) (pgs_cons (pg_name (i := 4) sc_find_followed.nd rfl (.inl rfl)) (pgs_cons (pg_tup (by rfl)
            (pgs_cons (pg_name (i := 5) sc_find_followed.nd rfl (.inl rfl)) (pgs_cons (pg_name (i := 6) sc_find_followed.nd rfl (.inl rfl)) (pgs_cons (pg_name (i := 7) sc_find_followed.nd rfl (.inl rfl)) (pgs_cons (pg_name (i := 8) sc_find_followed.nd rfl (.inl rfl)) (pgs_cons (pg_name (i := 9) sc_find_followed.nd rfl (.inl rfl)) pgs_nil)))))) pgs_nil)))
        (pss_one (ps_for PassesOwn.never rfl (pi_range1 rfl B.range (pa_cons (pv 8) pa_nil)) (pg_name (i := 10) sc_find_followed.nd rfl (.inl rfl))
          (pss_cons (ps_set (i := 11) sc_find_followed.nd rfl (.inl rfl) (pe_op op_modN (pe_op op_add (pv 7) (pv 10)) (pv 0)))
          (pss_one (ps_if (pt_cmpR op_isN (pe_ix ix_list (pe_ix ix_list (pv 3) (pv 5) (fun _ _ => rfl)) (pv 11) (fun _ _ => rfl)) pe_non (nomark _))
            (pss_one (ps_asg (pv 4) (pg_sub (pe_ix ix_list (pv 3) (pv 5) (fun _ _ => rfl)) (pv 11) set_list))) pss_nil))))))
      (pss_one (ps_ret (pv 3)))), ?_⟩
    -- the empty table
    refine ⟨_, rfl, h, rfl, by omega, by omega, fun D nD => ?_⟩
    refine lc_range (lo := 0) (n := (h : Int).toNat) (fun i H' => ∃ as, TabAt H H' D p i (fun _ _ => .non) as) ⟨[], same_upd nD, rfl, nD, upd_same, List.nodup_nil, by simp, by simp, fun i a z => by simp at z⟩ ?_ ?_
    · rintro i H' hi ⟨as, T⟩
      refine ⟨rfl, Nat.le_trans (by decide : 1 ≤ 1000) (Nat.le_of_lt (small1000 (Nat.le_refl _))), fun l0 nl0 => ?_⟩
      have T1 := T.keep (same_upd (o := HO.lst [V.non]) nl0)
      refine ⟨_, rfl, l0, p, [.non], rfl, rfl, upd_same, by omega, by omega, Nat.le_of_lt (small1000 (by show 1 * (p : Int).toNat ≤ 1000; omega)), fun r nr => ?_⟩
      have T2 := T1.keep (same_upd (o := HO.lst (List.replicate (p : Int).toNat [V.non]).flatten) nr)
      have fD := T2.flat
      refine ⟨_, fD, small1000 (by rw [List.length_map, T.len]; omega), as ++ [r], ?_⟩
      have nrD : r ≠ D := (ne_of_none T1.flat nr).symm
      have nas : r ∉ as := fun z => by
        obtain ⟨j, hj⟩ := List.getElem?_of_mem z
        exact ne_of_none (T1.row j r hj) nr rfl
      have nr0 : H r = none := T1.same.free nr
      refine ⟨fun b o e => ?_, by rw [List.length_append, T.len]; rfl, T.fl0, ?_, ?_, ?_, ?_, ?_⟩
      · rw [upd_ne (ne_of_none e T.fl0)]
        exact T2.same _ _ e
      · rw [upd_same, List.map_append]
        rfl
      · rw [List.nodup_append]
        exact ⟨T.nd, by simp, fun a ha b hb => by rw [List.mem_singleton.mp hb]; exact fun z => nas (z ▸ ha)⟩
      · intro z
        rcases List.mem_append.mp z with z | z
        · exact T.out z
        · exact nrD (List.mem_singleton.mp z).symm
      · intro a ha
        rcases List.mem_append.mp ha with z | z
        · exact T.new a z
        · rw [List.mem_singleton.mp z]
          exact nr0
      · intro j a hj
        by_cases z : j < as.length
        · rw [List.getElem?_append_left z] at hj
          have hn : a ≠ D := fun z2 => T.out (by rw [← z2]; exact List.mem_of_getElem? hj)
          rw [upd_ne hn]
          exact T2.row j a hj
        · rw [List.getElem?_append_right (by omega)] at hj
          obtain ⟨hj1, hj2⟩ := List.getElem?_eq_some_iff.mp hj
          have e0 : j - as.length = 0 := by
            have : j - as.length < 1 := hj1
            omega
          have ea : a = r := by
            rw [e0] at hj
            exact (Option.some.inj hj).symm
          rw [ea, upd_ne nrD, upd_same, rep_flat, rep_range]
          rfl
    · rintro H1 ⟨as, T⟩
      have hO1 : H1 t = some (.tup ts) := T.same _ _ ht
      -- each order
      refine ⟨_, rfl, t, ts, rfl, hO1, for_enumT (K := K) (a := t) (xs := ts) (fun i σ H' => (∃ x4 x5 x6 x7 x8 x9 x10 x11, σ = [some (.int p), some (.int h), some (.ref t), some (.ref D), x4, x5, x6, x7, x8, x9, x10, x11, none]) ∧ TabAt H H' D p h (cellV p (os.take i)) as)
        ⟨⟨_, _, _, _, _, _, _, _, rfl⟩, by exact T.congr fun s d _ _ => rfl⟩ (fun i σ H' ⟨_, T'⟩ => T'.same _ _ ht) ?_ ?_⟩
      · rintro i x σ H2 X hi ⟨⟨x4, x5, x6, x7, x8, x9, x10, x11, rfl⟩, T2⟩ nX
        have T3 := T2.keep (same_upd (o := HO.tup [.int (i : Nat), x]) nX)
        have hil : i < ts.length := (List.getElem?_eq_some_iff.mp hi).1
        have hlen := hP.length
        have hio : os[i]? = some (os[i]'(by omega)) := List.getElem?_eq_getElem (by omega)
        obtain ⟨x', hx', y, rfl, hy⟩ := Paired.get? (i := i) hP hio
        obtain rfl : V.ref y = x := Option.some.inj (hx'.symm.trans hi)
        generalize eo : os[i]'(by omega) = o at hio hy
        have hk : OdOk p h o := by rw [← eo]; exact N.ok _ (List.getElem_mem _)
        have k1 := hk.s; have k4 := hk.f; have k5 := hk.n1; have k6 := hk.n
        have hy3 := T3.same _ _ hy
        refine ⟨X, _, rfl, SqT.of upd_same, rfl, _, _, rfl, _, _, rfl, ⟨y, _, rfl, SqT.of hy3, rfl, _, _, rfl, _, _, rfl, _, _, rfl, _, _, rfl, _, _, rfl, rfl, rfl, ?_⟩⟩
        refine ⟨_, rfl, o.n, rfl, by omega, by omega, for_range (lo := 0) (n := (o.n : Int).toNat) (fun l σ H' => (∃ x10 x11, σ = [some (.int p), some (.int h), some (.ref t), some (.ref D), some (.int (i : Nat)), some (.int o.s), some (.int o.t), some (.int o.f), some (.int o.n), some (.int o.e), x10, x11, none]) ∧ TabAt H H' D p h (cellM p (os.take i) o i l) as)
          ⟨⟨_, _, rfl⟩, T3.congr fun s d _ _ => ?_⟩ ?_ ?_⟩
        · show optV (idx p (os.take i) s d) = optV ((idx p (os.take i) s d).or (if (decide (s = o.s) && false) = true then some i else none))
          rw [Bool.and_false, if_neg Bool.false_ne_true, Option.or_none]
        · rintro l σ H4 hl ⟨⟨x10, x11, rfl⟩, T4⟩
          have hl2 : l < o.n := by omega
          refine ⟨_, rfl, _, rfl, _, _, rfl, rfl, _, rfl, _, _, rfl, rfl, by omega, ?_⟩
          have ed : Int.fmod ((o.f : Int) + (0 + (l : Int))) (p : Int) = (((o.f + l) % p : Nat) : Int) := by
            rw [Int.zero_add]
            exact fmod_nat (o.f + l) p
          have hd : (o.f + l) % p < p := Nat.mod_lt _ (by omega)
          generalize hdd : (o.f + l) % p = dd at ed hd
          have hsl : o.s < as.length := by rw [T4.len]; exact k1
          have ha := List.getElem?_eq_getElem hsl
          generalize as[o.s] = a at ha
          have hmap : (as.map V.ref)[o.s]? = some (.ref a) := by rw [List.getElem?_map, ha]; rfl
          have hrow := T4.row _ _ ha
          have hcell : ((List.range p).map (cellM p (os.take i) o i l o.s))[dd]? = some (cellM p (os.take i) o i l o.s dd) := by
            rw [List.getElem?_map, List.getElem?_range hd]
            rfl
          show ∃ v, _
          refine ⟨_, rfl, _, rfl, D, _, _, _, rfl, rfl, SqL.of T4.flat, atI_nat hmap, ?_⟩
          refine ⟨_, rfl, a, _, (dd : Int), _, rfl, by rw [← ed], SqL.of hrow, atI_nat hcell, ?_⟩
          refine ⟨rfl, _, rfl, ite2 (fun e => ?_) (fun e => ?_)⟩
          · have en : cellM p (os.take i) o i l o.s dd = .non := of_decide_eq_true e
            refine ⟨_, rfl, _, rfl, _, rfl, D, _, _, _, rfl, rfl, SqL.of T4.flat, atI_nat hmap, ?_⟩
            refine ⟨_, rfl, a, _, (dd : Int), dd, rfl, by rw [← ed], hrow, ix_at (by rw [List.length_map, List.length_range]; exact hd), ?_⟩
            refine ⟨⟨_, _, rfl⟩, (T4.set ha).congr fun s d hs hd2 => ?_⟩
            subst hdd
            exact cellM_hit en
          · refine ⟨⟨_, _, rfl⟩, T4.congr fun s d hs hd2 => ?_⟩
            subst hdd
            exact cellM_miss (fun z => e (decide_eq_true z))
        · rintro σ H4 ⟨⟨x10, x11, rfl⟩, T4⟩
          exact ⟨⟨_, _, _, _, _, _, _, _, rfl⟩, T4.congr fun s d hs hd => cellM_end hk hio hd⟩
      · rintro σ H2 ⟨⟨x4, x5, x6, x7, x8, x9, x10, x11, rfl⟩, T2⟩
        refine ⟨_, rfl, q _ D as (T2.congr fun s d _ _ => ?_)⟩
        rw [List.take_of_length_le (by rw [← hP.length]; exact Nat.le_refl _)]
end
abbrev s_Net_init : Stmt := inClass (top 27) 0
abbrev N_Net_init : List Str := ["self", "period", "houses", "orders"]
abbrev P_Net_init : List Str := ["self", "period", "houses", "orders"]
theorem sc_Net_init : FnScope N_Net_init P_Net_init (defScope s_Net_init) := ⟨rfl, rfl, rfl, by decide +kernel, rfl, by decide +kernel, by decide +kernel⟩
/-! ### a net, made and read -/
def NetFs (p h : Nat) (t fl : Addr) : List (Str × V) := putF "followed" (.ref fl) (putF "orders" (.ref t) (putF "houses" (.int h) (putF "period" (.int p) [])))
theorem sFO : ¬ ("orders" : Str) = "followed" := by decide +kernel
theorem sFH : ¬ ("houses" : Str) = "followed" := by decide +kernel
theorem sFP : ¬ ("period" : Str) = "followed" := by decide +kernel
theorem sOH : ¬ ("houses" : Str) = "orders" := by decide +kernel
theorem sOP : ¬ ("period" : Str) = "orders" := by decide +kernel
theorem sHP : ¬ ("period" : Str) = "houses" := by decide +kernel
theorem nf_fl {p h : Nat} {t fl : Addr} : (NetFs p h t fl).lookup ("followed" : Str) = some (.ref fl) := by
  unfold NetFs
  rw [lookup_putF, if_pos rfl]
theorem nf_or {p h : Nat} {t fl : Addr} : (NetFs p h t fl).lookup ("orders" : Str) = some (.ref t) := by
  unfold NetFs
  rw [lookup_putF, if_neg sFO, lookup_putF, if_pos rfl]
theorem nf_ho {p h : Nat} {t fl : Addr} : (NetFs p h t fl).lookup ("houses" : Str) = some (.int h) := by
  unfold NetFs
  rw [lookup_putF, if_neg sFH, lookup_putF, if_neg sOH, lookup_putF, if_pos rfl]
theorem nf_pe {p h : Nat} {t fl : Addr} : (NetFs p h t fl).lookup ("period" : Str) = some (.int p) := by
  unfold NetFs
  rw [lookup_putF, if_neg sFP, lookup_putF, if_neg sOP, lookup_putF, if_neg sHP, lookup_putF, if_pos rfl]
theorem nf_no {p h : Nat} {t fl : Addr} {m : Str} (h1 : ¬ m = "followed") (h2 : ¬ m = "orders") (h3 : ¬ m = "houses") (h4 : ¬ m = "period") : (NetFs p h t fl).lookup m = none := by
  unfold NetFs
  rw [lookup_putF, if_neg h1, lookup_putF, if_neg h2, lookup_putF, if_neg h3, lookup_putF, if_neg h4]
  rfl
/-- what the class says -/
structure NetT (K : PySem.W.Frag) (C : Addr) : Prop where
  cl : Cls K C
  nP : NoAttr K C "period"
  nH : NoAttr K C "houses"
  nO : NoAttr K C "orders"
  nF : NoAttr K C "followed"
/-- a net of these parts at x; F: its own addresses -/
def NetAt (C : Addr) (H : Hp) (x : Addr) (p h : Nat) (os : List Od) (t : Addr) (F : List Addr) : Prop := ∃ dx fl as, F = x :: fl :: as ∧ H x = some (.ins C dx (NetFs p h t fl)) ∧ OrdsTup H t os ∧
  H fl = some (.lst (as.map V.ref)) ∧ as.length = h ∧ ∀ i a, as[i]? = some a → H a = some (.lst ((List.range p).map (cellV p os i)))
theorem NetAt.keep {C : Addr} {H H' : Hp} {x : Addr} {p h : Nat} {os : List Od} {t : Addr} {F : List Addr} (N : NetAt C H x p h os t F) (k : TupKeep H H') (kf : ∀ b ∈ F, ∀ o, H b = some o → H' b = some o) : NetAt C H' x p h os t F := by
  obtain ⟨dx, fl, as, rfl, h1, h2, h3, h4, h5⟩ := N
  refine ⟨dx, fl, as, rfl, kf _ (by simp) _ h1, h2.keep k, kf _ (by simp) _ h3, h4, fun i a hi => kf _ ?_ _ (h5 i a hi)⟩
  exact List.mem_cons_of_mem _ (List.mem_cons_of_mem _ (List.mem_of_getElem? hi))
theorem NetAt.same {C : Addr} {H H' : Hp} {x : Addr} {p h : Nat} {os : List Od} {t : Addr} {F : List Addr} (N : NetAt C H x p h os t F) (s : Same H H') : NetAt C H' x p h os t F := N.keep (tk_of s) fun b _ o e => s b o e
theorem NetAt.but {C : Addr} {H H' : Hp} {x : Addr} {p h : Nat} {os : List Od} {t d : Addr} {F : List Addr} (N : NetAt C H x p h os t F) (s : But d H H') (k : TupKeep H H') (n : d ∉ F) : NetAt C H' x p h os t F := N.keep k fun b hb o e => s b o (fun z => n (z ▸ hb)) e
theorem NetAt.new {C : Addr} {H : Hp} {x : Addr} {p h : Nat} {os : List Od} {t u : Addr} {F : List Addr} (N : NetAt C H x p h os t F) (n : H u = none) : u ∉ F := by
  obtain ⟨dx, fl, as, rfl, h1, h2, h3, h4, h5⟩ := N
  intro z
  rcases List.mem_cons.mp z with z | z
  · exact ne_of_none h1 n z.symm
  rcases List.mem_cons.mp z with z | z
  · exact ne_of_none h3 n z.symm
  obtain ⟨j, hj⟩ := List.getElem?_of_mem z
  exact ne_of_none (h5 j u hj) n rfl
def spInit (C : Addr) : Sp := fun vs H Q _ => ∃ (x dx t : Addr) (p h : Nat) (os : List Od) (H0 : Hp), vs = [.ref x, .int p, .int h, .ref t] ∧ NetOk p h os ∧ OrdsTup H t os ∧ Same H0 H ∧ H0 x = none ∧ H x = some (.ins C dx []) ∧
  ∀ H' F, Same H0 H' → (∀ b ∈ F, H0 b = none) → NetAt C H' x p h os t F → Q .non H'
section
variable {P : Program} {w : World} {K : PySem.W.Frag} {mg : Str → Option Value} {base : Heap}
theorem ok_init {f C : Addr} {fd : FuncData} (F : Fun K "__init__" "Net.__init__" s_Net_init f fd) (T : NetT K C) (DW : Df P w K mg base "is_within" 2 P_is_within (spWithin K)) (DC : Df P w K mg base "check_orders" 4 P_check_orders spChkOrders)
    (DF : Df P w K mg base "find_followed" 2 P_find_followed spFollowed) (hP : ∃ t, mg "LONGEST_PERIOD" = some (.int 30 t)) (hH : ∃ t, mg "MOST_HOUSES" = some (.int 10 t)) : FnOk P w K mg base CX0 5 f fd P_Net_init (spInit C) := by
  obtain ⟨fW, fdW, gW, kW, bW, GW⟩ := DW
  obtain ⟨fC, fdC, gC, kC, bC, GC⟩ := DC
  obtain ⟨fF, fdF, gF, kF, bF, GF⟩ := DF
  obtain ⟨tkP, hP⟩ := hP
  obtain ⟨tkH, hH⟩ := hH
  refine F.ok sc_Net_init (fun vs H Q E h => ?_) (fun cdv A outer s H vs Q E hr h => ?_)
  · obtain ⟨x, dx, t, p, h, os, H0, rfl, _⟩ := h
    rfl
  · obtain ⟨x, dx, t, p, h, os, H0, rfl, N, hO, s0, x0, hx, q⟩ := h
    have hr1 : Room 2 _ := hr.mono (by decide)
    refine ⟨_, pss_cons (ps_if (pt_not (pt_val (pe_call GW hr1 (by rfl) gW kW bW .nil pass0 (pa_cons (pv 1) (pa_cons pe_int (pa_cons (pe_glob (v := .int 30) rfl hP ⟨_, rfl⟩) pa_nil)))))) (pss_one ps_never) pss_nil)
      (pss_cons (ps_if (pt_not (pt_val (pe_call GW hr1 (by rfl) gW kW bW .nil pass0 (pa_cons (pv 2) (pa_cons pe_int (pa_cons (pe_glob (v := .int 10) rfl hH ⟨_, rfl⟩) pa_nil)))))) (pss_one ps_never) pss_nil)
      (pss_cons (ps_expr (pe_call GC hr (by rfl) gC kC bC .nil pass0 (pa_cons (pv 1) (pa_cons (pv 2) (pa_cons (pv 3) pa_nil)))))
      (pss_cons (ps_fld (pv 0) (pv 1) rfl) (pss_cons (ps_fld (pv 0) (pv 2) rfl) (pss_cons (ps_fld (pv 0) (pv 3) rfl)
      (pss_one (ps_fld (pv 0) (pe_call GF hr1 (by rfl) gF kF bF .nil pass0 (pa_cons (pv 1) (pa_cons (pv 2) (pa_cons (pv 3) pa_nil)))) rfl))))))), ?_⟩
    have w1 : withinB (.int p) 1 30 = true := within_nat (lo := 1) (hi := 30) N.p1 N.p30
    have w2 : withinB (.int h) 1 10 = true := within_nat (lo := 1) (hi := 10) N.h1 N.h10
    refine ⟨_, rfl, .int p, 1, 30, rfl, .int, _, rfl, ?_⟩
    rw [w1]
    refine iteF ⟨_, rfl, .int h, 1, 10, rfl, .int, _, rfl, ?_⟩
    rw [w2]
    refine iteF ⟨_, rfl, _, rfl, _, rfl, t, p, h, os, rfl, N, hO, fun H1 s1 => ?_⟩
    have hx1 := s1 _ _ hx
    have nt : t ≠ x := by
      obtain ⟨ts, ht, _⟩ := hO
      exact ne_of ht hx (by intro z; cases z)
    refine ⟨_, rfl, _, rfl, x, C, dx, [], rfl, hx1, T.cl, T.nP, (by show 0 < 1000; decide), ?_⟩
    refine ⟨_, rfl, _, rfl, x, C, dx, _, rfl, upd_same, T.cl, T.nH, (by show 1 < 1000; decide), ?_⟩
    refine ⟨_, rfl, _, rfl, x, C, dx, _, rfl, upd_same, T.cl, T.nO, ?_, ?_⟩
    · show (putF "houses" _ (putF "period" _ [])).length < 1000
      have : (putF "houses" (.int (h : Int)) (putF "period" (.int (p : Int)) [])).length ≤ 2 := by
        show (if ("period" : Str) = "houses" then _ else _ : List (Str × V)).length ≤ 2
        rw [if_neg sHP]
        exact Nat.le_refl _
      omega
    rw [upd_upd, upd_upd]
    refine ⟨_, rfl, _, rfl, _, rfl, t, p, h, os, rfl, N, ?_, fun H2 fl as TT => ?_⟩
    · refine hO.keep fun b xs e => ?_
      have e1 := s1 _ _ e
      rw [upd_ne (ne_of e1 hx1 (by intro z; cases z))]
      exact e1
    have hx2 := TT.same _ _ (upd_same (H := H1) (a := x))
    have hflx : fl ≠ x := fun z => by
      have q1 := TT.fl0
      rw [z, upd_same] at q1
      cases q1
    have hasx : ∀ a ∈ as, a ≠ x := fun a ha z => by
      have q1 := TT.new a ha
      rw [z, upd_same] at q1
      cases q1
    refine ⟨_, rfl, x, C, dx, _, rfl, hx2, T.cl, T.nF, ?_, ?_⟩
    · show (putF "orders" _ (putF "houses" _ (putF "period" _ []))).length < 1000
      have : (putF "orders" (.ref t) (putF "houses" (.int (h : Int)) (putF "period" (.int (p : Int)) []))).length ≤ 3 := by
        show (putF "orders" (V.ref t) (if ("period" : Str) = "houses" then _ else _ : List (Str × V))).length ≤ 3
        rw [if_neg sHP]
        show (if ("period" : Str) = "orders" then _ else _ :: (if ("houses" : Str) = "orders" then _ else _) : List (Str × V)).length ≤ 3
        rw [if_neg sOP, if_neg sOH]
        exact Nat.le_refl _
      omega
    have free : ∀ b, b ≠ x → (L2.upd H1 x (.ins C dx (putF "orders" (.ref t) (putF "houses" (.int (h : Int)) (putF "period" (.int (p : Int)) []))))) b = none → H0 b = none := fun b nb e => by
      rw [upd_ne nb] at e
      exact s0.free (s1.free e)
    refine q _ (x :: fl :: as) (fun b o e => ?_) (fun b hb => ?_) ⟨dx, fl, as, rfl, upd_same, ?_, ?_, TT.len, fun i a hi => ?_⟩
    · have nb : b ≠ x := ne_of_none e x0
      rw [upd_ne nb]
      refine TT.same _ _ ?_
      rw [upd_ne nb]
      exact s1 _ _ (s0 _ _ e)
    · rcases List.mem_cons.mp hb with z | z
      · rw [z]; exact x0
      rcases List.mem_cons.mp z with z | z
      · rw [z]; exact free fl hflx TT.fl0
      · exact free b (hasx b z) (TT.new b z)
    · refine hO.keep fun b xs e => ?_
      have e1 := s1 _ _ e
      have nb : b ≠ x := ne_of e1 hx1 (by intro z; cases z)
      rw [upd_ne nb]
      refine TT.same _ _ ?_
      rw [upd_ne nb]
      exact e1
    · rw [upd_ne hflx]
      exact TT.flat
    · rw [upd_ne (hasx a (List.mem_of_getElem? hi))]
      exact TT.row i a hi
end
/-! ### the table, read -/
/-- where the table is read: followed[a][d % period] -/
theorem cell_read {C : Addr} {H : Hp} {x t : Addr} {p h a : Nat} {os : List Od} {F : List Addr} (N : NetAt C H x p h os t F) (ha : a < h) (hp : 0 < p) (d : Nat) : ∃ dx fl rows ro row, H x = some (.ins C dx (NetFs p h t fl)) ∧ H fl = some (.lst rows) ∧ rows[a]? = some (.ref ro) ∧ H ro = some (.lst row) ∧
    row[d % p]? = some (optV (idx p os a (d : Int))) := by
  obtain ⟨dx, fl, as, _, hx, _, hfl, hlen, hr⟩ := N
  have hal : a < as.length := by omega
  have e := List.getElem?_eq_getElem hal
  refine ⟨dx, fl, _, as[a], _, hx, hfl, by rw [List.getElem?_map, e]; rfl, hr a _ e, ?_⟩
  rw [List.getElem?_map, List.getElem?_range (Nat.mod_lt _ hp)]
  show some (optV (idx p os a ((d % p : Nat) : Int))) = _
  rw [idx_nat]
/-! ### stops and what is still to come: plain -/
def StopAt (H : Hp) (v : V) (s : Nat × Nat) : Prop := ∃ u, v = .ref u ∧ H u = some (.tup [.int s.1, .int s.2])
theorem StopAt.keep {H H' : Hp} {v : V} {s : Nat × Nat} (k : TupKeep H H') (h : StopAt H v s) : StopAt H' v s := by
  obtain ⟨u, e, hu⟩ := h
  exact ⟨u, e, k _ _ hu⟩
theorem StopsAt.keep {H H' : Hp} {vs : List V} {l : List (Nat × Nat)} (k : TupKeep H H') (h : Paired (StopAt H) vs l) : Paired (StopAt H') vs l := Paired.mapP h fun _ _ q => q.keep k
/-- what is still to come from a stop (or none) -/
def rest (p : Nat) (os : List Od) (n : Nat) : Option (Nat × Nat) → List (Nat × Nat)
  | none => []
  | some s => way p os n s
theorem rest_succ (p : Nat) (os : List Od) (n : Nat) (s : Nat × Nat) : rest p os (n + 1) (some s) = s :: rest p os n (hop p os s) := by
  show way p os (n + 1) s = _
  unfold way
  cases hop p os s <;> rfl
theorem rest_zero (p : Nat) (os : List Od) (o : Option (Nat × Nat)) : rest p os 0 o = [] := by cases o <;> rfl
theorem hop_house {p h : Nat} {os : List Od} {s s' : Nat × Nat} (k : NetOk p h os) (e : hop p os s = some s') : s'.1 < h := by
  unfold hop at e
  cases q : idx p os s.1 (s.2 : Int) with
  | none =>
    rw [q] at e
    cases e
  | some j =>
    simp only [q] at e
    have hj := idx_lt q
    rw [List.getElem?_eq_getElem hj] at e
    rw [← Option.some.inj e]
    exact (k.ok _ (List.getElem_mem hj)).t
/-! ### ways: plain -/
theorem way_len (p : Nat) (os : List Od) : ∀ (n : Nat) (st : Nat × Nat), (way p os n st).length ≤ n
  | 0, _ => Nat.le_refl _
  | n + 1, st => by
    show (way p os (n + 1) st).length ≤ n + 1
    rw [show way p os (n + 1) st = rest p os (n + 1) (some st) from rfl, rest_succ]
    cases h : hop p os st with
    | none => exact Nat.succ_le_succ (Nat.zero_le _)
    | some s' => exact Nat.succ_le_succ (way_len p os n s')
theorem way_house {p h : Nat} {os : List Od} (k : NetOk p h os) : ∀ {n : Nat} {st : Nat × Nat}, st.1 < h → ∀ s ∈ way p os n st, s.1 < h
  | 0, _, _, _, hm => by cases hm
  | n + 1, st, h0, s, hm => by
    rw [show way p os (n + 1) st = rest p os (n + 1) (some st) from rfl, rest_succ] at hm
    rcases List.mem_cons.mp hm with e | hm
    · rw [e]; exact h0
    · cases q : hop p os st with
      | none => rw [q] at hm; cases hm
      | some s' =>
        rw [q] at hm
        exact way_house k (hop_house k q) s hm
/-- the i-th stop, by going on from it -/
theorem way_drop {p : Nat} {os : List Od} : ∀ {n i : Nat} {st s : Nat × Nat}, (way p os n st)[i]? = some s → (way p os n st).drop i = way p os (n - i) s
  | 0, _, _, _, h => by cases h
  | n + 1, 0, st, s, h => by
    have e : st = s := Option.some.inj h
    subst e
    rfl
  | n + 1, i + 1, st, s, h => by
    have e : way p os (n + 1) st = st :: rest p os n (hop p os st) := rest_succ p os n st
    rw [e] at h ⊢
    rw [List.getElem?_cons_succ] at h
    rw [List.drop_succ_cons, Nat.succ_sub_succ]
    cases q : hop p os st with
    | none => rw [q] at h; cases h
    | some s' =>
      rw [q] at h
      exact way_drop h
/-! ### a letter followed to its end -/
def plc (p : Nat) (s : Nat × Nat) : Nat × Nat := (s.1, s.2 % p)
/-- the stops up to the first that comes back to an earlier one's place, and that one's index -/
def fol (p : Nat) : List (Nat × Nat) → List (Nat × Nat) → List (Nat × Nat) × Option Nat
  | done, [] => (done, none)
  | done, s :: r => match done.findIdx? (fun t => decide (plc p t = plc p s)) with
    | some b => (done ++ [s], some b)
    | none => fol p (done ++ [s]) r
def folR (p h : Nat) (os : List Od) (st : Nat × Nat) : List (Nat × Nat) × Option Nat := fol p [] (way p os (h * p + 1) st)
def keyOf (p : Nat) (s : Nat × Nat) : List Key := [Sum.inl (s.1 : Int), Sum.inl ((s.2 % p : Nat) : Int)]
def kvsFrom (p : Nat) : Nat → List (Nat × Nat) → List (List Key × V)
  | _, [] => []
  | k, s :: r => (keyOf p s, .int (k : Nat)) :: kvsFrom p (k + 1) r
theorem keyOf_eq {p : Nat} {s t : Nat × Nat} : keyOf p t = keyOf p s ↔ plc p t = plc p s := by
  unfold keyOf plc
  constructor
  · intro h
    have h1 : (t.1 : Int) = s.1 := Sum.inl.inj (List.cons.inj h).1
    have h2 : ((t.2 % p : Nat) : Int) = ((s.2 % p : Nat) : Int) := Sum.inl.inj (List.cons.inj (List.cons.inj h).2).1
    exact Prod.ext (by show t.1 = s.1; omega) (by show t.2 % p = s.2 % p; omega)
  · intro h
    have h1 : t.1 = s.1 := (Prod.mk.inj h).1
    have h2 : t.2 % p = s.2 % p := (Prod.mk.inj h).2
    rw [h1, h2]
theorem kvs_val {p : Nat} {s : Nat × Nat} : ∀ (l : List (Nat × Nat)) (k : Nat), valV (kvsFrom p k l) (keyOf p s) = (l.findIdx? fun t => decide (plc p t = plc p s)).map fun i => V.int ((k + i : Nat) : Int)
  | [], _ => rfl
  | t :: r, k => by
    rw [List.findIdx?_cons]
    unfold kvsFrom valV
    rw [List.find?_cons]
    by_cases c : plc p t = plc p s
    · have c2 : keyOf p t = keyOf p s := keyOf_eq.mpr c
      simp only [c, c2, decide_true, if_true, Option.map_some]
      rfl
    · have c2 : ¬ keyOf p t = keyOf p s := fun z => c (keyOf_eq.mp z)
      simp only [c, c2, decide_false, Bool.false_eq_true, if_false]
      have ih := kvs_val (p := p) (s := s) r (k + 1)
      unfold valV at ih
      rw [ih, Option.map_map]
      congr 1
      funext i
      show V.int ((k + 1 + i : Nat) : Int) = V.int ((k + (i + 1) : Nat) : Int)
      rw [show k + 1 + i = k + (i + 1) by omega]
theorem kvs_len {p : Nat} : ∀ (l : List (Nat × Nat)) (k : Nat), (kvsFrom p k l).length = l.length
  | [], _ => rfl
  | _ :: r, k => by
    show (kvsFrom p (k + 1) r).length + 1 = r.length + 1
    rw [kvs_len r (k + 1)]
theorem kvs_snoc {p : Nat} {s : Nat × Nat} : ∀ (l : List (Nat × Nat)) (k : Nat), kvsFrom p k (l ++ [s]) = kvsFrom p k l ++ [(keyOf p s, .int ((k + l.length : Nat) : Int))]
  | [], _ => rfl
  | t :: r, k => by
    show (keyOf p t, V.int (k : Nat)) :: kvsFrom p (k + 1) (r ++ [s]) = _
    rw [kvs_snoc r (k + 1)]
    show _ = (keyOf p t, V.int (k : Nat)) :: (kvsFrom p (k + 1) r ++ [(keyOf p s, V.int ((k + (r.length + 1) : Nat) : Int))])
    rw [show k + 1 + r.length = k + (r.length + 1) by omega]
theorem putK_new {κ : Type} [DecidableEq κ] {kvs : List (κ × V)} {k : κ} {v : V} (h : valV kvs k = none) : putK kvs k v = kvs ++ [(k, v)] := by
  unfold putK
  have e : (kvs.any fun kv => decide (kv.1 = k)) = false := by
    unfold valV at h
    rw [Option.map_eq_none_iff, List.find?_eq_none] at h
    rw [List.any_eq_false]
    exact h
  rw [e, if_neg Bool.false_ne_true]
theorem pair_last {α β : Type} {F : α → β → Prop} {y : α} {s : β} : ∀ {xs : List α} {l : List β}, Paired F (xs ++ [y]) (l ++ [s]) → F y s
  | [], [], h => by cases h with | cons r _ => exact r
  | [], b :: l, h => by
    cases h with
    | cons _ t =>
      have := t.length
      simp at this
  | a :: xs, [], h => by
    cases h with
    | cons _ t =>
      have := t.length
      simp at this
  | a :: xs, b :: l, h => by
    cases h with
    | cons _ t => exact pair_last t
theorem pair_split {α β : Type} {F : α → β → Prop} {s : β} : ∀ {l : List β} {xs : List α}, Paired F xs (l ++ [s]) → ∃ ys v, xs = ys ++ [v] ∧ Paired F ys l ∧ F v s
  | [], _, h => by
    cases h with
    | cons r t =>
      cases t
      exact ⟨[], _, rfl, .nil, r⟩
  | b :: l, _, h => by
    cases h with
    | cons r t =>
      obtain ⟨ys, v, rfl, h1, h2⟩ := pair_split t
      exact ⟨_ :: ys, v, rfl, .cons r h1, h2⟩
/-- what follow gives: the stops' list, the index -/
def FolAt (H H' : Hp) (r : Addr) (res : List (Nat × Nat) × Option Nat) : Prop := ∃ sl vs, H r = none ∧ H' r = some (.tup [.ref sl, optV res.2]) ∧ H sl = none ∧ H' sl = some (.lst vs) ∧ Paired (StopAt H') vs res.1
/-! ### cuts -/
theorem cut_from {xs : List V} {n : Nat} : cutV xs (some (n : Int)) none = xs.drop n := by
  unfold cutV
  rw [HT.sIx_nat, HT.sIx_none]
  by_cases c : n ≤ xs.length
  · rw [Nat.min_eq_left c, List.take_of_length_le (by rw [List.length_drop]; exact Nat.le_refl _)]
  · rw [Nat.min_eq_right (by omega), Nat.sub_self, List.take_zero, List.drop_eq_nil_iff.mpr (by omega)]
theorem cut_to {xs : List V} {n : Nat} : cutV xs none (some (n : Int)) = xs.take n := by
  unfold cutV
  rw [HT.sIx_none, HT.sIx_nat, List.drop_zero, Nat.sub_zero]
  by_cases c : n ≤ xs.length
  · rw [Nat.min_eq_left c]
  · rw [Nat.min_eq_right (by omega), List.take_of_length_le (Nat.le_refl _), List.take_of_length_le (by omega)]
/-! ### stops followed: plain mathematics -/
theorem fol_ne {p : Nat} : ∀ (l d : List (Nat × Nat)), (d ≠ [] ∨ l ≠ []) → (fol p d l).1 ≠ []
  | [], d, h => by
    rcases h with h | h
    · exact h
    · exact absurd rfl h
  | s :: r, d, _ => by
    unfold fol
    cases (d.findIdx? fun t => decide (plc p t = plc p s)) with
    | some b => simp
    | none => exact fol_ne r (d ++ [s]) (.inl (by simp))
theorem fol_len {p : Nat} : ∀ (l d : List (Nat × Nat)), (fol p d l).1.length ≤ d.length + l.length
  | [], d => by
    show d.length ≤ _
    omega
  | s :: r, d => by
    unfold fol
    cases (d.findIdx? fun t => decide (plc p t = plc p s)) with
    | some b =>
      show (d ++ [s]).length ≤ _
      rw [List.length_append, List.length_singleton, List.length_cons]
      omega
    | none =>
      have := fol_len (p := p) r (d ++ [s])
      rw [List.length_append, List.length_singleton] at this
      rw [List.length_cons]
      show (fol p (d ++ [s]) r).1.length ≤ _
      omega
theorem folR_ne {p h : Nat} {os : List Od} {st : Nat × Nat} : (folR p h os st).1 ≠ [] := by
  unfold folR
  refine fol_ne _ _ (.inr ?_)
  show way p os (h * p + 1) st ≠ []
  rw [show way p os (h * p + 1) st = rest p os (h * p + 1) (some st) from rfl, rest_succ]
  exact List.cons_ne_nil _ _
theorem folR_len {p h : Nat} {os : List Od} {st : Nat × Nat} : (folR p h os st).1.length ≤ h * p + 1 := by
  have h1 := fol_len (p := p) (way p os (h * p + 1) st) []
  have h2 := way_len p os (h * p + 1) st
  unfold folR
  simp only [List.length_nil, Nat.zero_add] at h1
  exact Nat.le_trans h1 h2
theorem small301 {p h : Nat} {os : List Od} (k : NetOk p h os) : h * p + 1 ≤ 301 := by
  have : h * p ≤ 10 * 30 := Nat.mul_le_mul k.h10 k.p30
  omega
theorem optV_isN {o : Option Nat} : decide (optV o = .non) = o.isNone := by cases o <;> rfl
theorem pair_drop {α β : Type} {F : α → β → Prop} {xs : List α} {l : List β} (h : Paired F xs l) : ∀ n, Paired F (xs.drop n) (l.drop n) := by
  induction h with
  | nil =>
    intro n
    rw [List.drop_nil, List.drop_nil]
    exact .nil
  | cons r t ih =>
    intro n
    cases n with
    | zero => exact .cons r t
    | succ n => exact ih n
theorem nodup_bound : ∀ (n : Nat) (l : List Nat), l.Nodup → (∀ x ∈ l, x < n) → l.length ≤ n
  | 0, [], _, _ => Nat.le_refl _
  | 0, x :: l, _, h => absurd (h x List.mem_cons_self) (Nat.not_lt_zero _)
  | n + 1, l, nd, h => by
    by_cases c : n ∈ l
    · have h1 : (l.erase n).length ≤ n := nodup_bound n (l.erase n) (nd.erase n) fun x hx => by
        have h2 := (List.Nodup.mem_erase_iff nd).mp hx
        have h3 := h x h2.2
        have h4 : x ≠ n := h2.1
        omega
      have h2 := List.length_erase_of_mem c
      omega
    · have h1 : l.length ≤ n := nodup_bound n l nd fun x hx => by
        have h3 := h x hx
        have h4 : x ≠ n := fun e => c (e ▸ hx)
        omega
      omega
/-- stops at different places are few -/
theorem places_bound {p h : Nat} {l : List (Nat × Nat)} (hp : 0 < p) (hh : ∀ s ∈ l, s.1 < h) (nd : (l.map (plc p)).Nodup) : l.length ≤ h * p := by
  have e : (l.map fun s => s.1 * p + s.2 % p).length = l.length := List.length_map _
  rw [← e]
  refine nodup_bound (h * p) _ ?_ ?_
  · have e2 : (l.map fun s => s.1 * p + s.2 % p) = (l.map (plc p)).map fun s => s.1 * p + s.2 := by
      rw [List.map_map]
      rfl
    rw [e2]
    have lt : ∀ s ∈ l.map (plc p), s.2 < p := fun s hs => by
      obtain ⟨t, _, rfl⟩ := List.mem_map.mp hs
      exact Nat.mod_lt _ hp
    generalize l.map (plc p) = ps at nd lt
    clear e e2 hh
    induction ps with
    | nil => exact List.nodup_nil
    | cons s r ih =>
      rw [List.nodup_cons] at nd
      rw [List.map_cons, List.nodup_cons]
      refine ⟨fun hm => ?_, ih nd.2 fun t ht => lt t (List.mem_cons_of_mem _ ht)⟩
      obtain ⟨t, ht, et⟩ := List.mem_map.mp hm
      have l1 := lt s List.mem_cons_self
      have l2 := lt t (List.mem_cons_of_mem _ ht)
      have q1 : t.1 = s.1 := by
        have a1 : (t.1 * p + t.2) / p = (s.1 * p + s.2) / p := by rw [et]
        rw [Nat.mul_comm t.1, Nat.mul_comm s.1, Nat.mul_add_div hp, Nat.mul_add_div hp, Nat.div_eq_of_lt l1, Nat.div_eq_of_lt l2] at a1
        omega
      have q2 : t.2 = s.2 := by
        rw [q1] at et
        omega
      exact nd.1 (by rw [show s = t from Prod.ext q1.symm q2.symm]; exact ht)
  · intro x hx
    obtain ⟨s, hs, rfl⟩ := List.mem_map.mp hx
    have h1 := hh s hs
    have h2 : s.2 % p < p := Nat.mod_lt _ hp
    calc s.1 * p + s.2 % p < s.1 * p + p := by omega
      _ = (s.1 + 1) * p := by rw [Nat.add_mul, Nat.one_mul]
      _ ≤ h * p := Nat.mul_le_mul_right _ h1
/-- how a way goes on behind its i-th stop -/
theorem way_next {p : Nat} {os : List Od} {n i : Nat} {st c : Nat × Nat} (hc : (way p os n st)[i]? = some c) (hi : i + 1 < n) : (way p os n st).drop (i + 1) = rest p os (n - (i + 1)) (hop p os c) := by
  have h := way_drop hc
  have e : n - i = (n - (i + 1)) + 1 := by omega
  rw [e, show way p os (n - (i + 1) + 1) c = rest p os (n - (i + 1) + 1) (some c) from rfl, rest_succ] at h
  have := congrArg (List.drop 1) h
  rw [List.drop_drop] at this
  exact this
/-- destination's answer -/
def destOf (res : List (Nat × Nat) × Option Nat) : Option (Nat × Nat) := match res.2 with
  | some _ => none
  | none => res.1.getLast?
def OptStop (H' : Hp) (v : V) : Option (Nat × Nat) → Prop
  | none => v = .non
  | some s => StopAt H' v s
/-! ### where a letter is: plain mathematics -/
/-- the i-th stop of a letter's way -/
def stp (p : Nat) (os : List Od) : Nat → Nat × Nat → Option (Nat × Nat)
  | 0, st => some st
  | n + 1, st => (stp p os n st).bind (hop p os)
theorem way_get {p : Nat} {os : List Od} {n : Nat} {st : Nat × Nat} : ∀ {i : Nat}, i < n → (way p os n st)[i]? = stp p os i st
  | 0, h => by
    obtain ⟨n, rfl⟩ : ∃ m, n = m + 1 := ⟨n - 1, by omega⟩
    rw [show way p os (n + 1) st = rest p os (n + 1) (some st) from rfl, rest_succ]
    rfl
  | i + 1, h => by
    have ih := way_get (p := p) (os := os) (n := n) (st := st) (i := i) (by omega)
    show _ = (stp p os i st).bind (hop p os)
    cases q : (way p os n st)[i]? with
    | none =>
      rw [← ih, q]
      rw [List.getElem?_eq_none_iff] at q
      exact List.getElem?_eq_none_iff.mpr (by omega)
    | some c =>
      rw [← ih, q]
      have e := way_next q h
      have e2 := congrArg (fun l => l[0]?) e
      simp only [List.getElem?_drop, Nat.add_zero] at e2
      rw [e2]
      obtain ⟨k, hk⟩ : ∃ k, n - (i + 1) = k + 1 := ⟨n - (i + 1) - 1, by omega⟩
      rw [hk]
      show (rest p os (k + 1) (hop p os c))[0]? = hop p os c
      cases hop p os c with
      | none => rfl
      | some s =>
        rw [rest_succ]
        rfl
theorem stp_add {p : Nat} {os : List Od} {i : Nat} {st : Nat × Nat} : ∀ {j : Nat}, stp p os (i + j) st = (stp p os i st).bind (stp p os j)
  | 0 => by
    show stp p os i st = _
    cases stp p os i st <;> rfl
  | j + 1 => by
    show (stp p os (i + j) st).bind (hop p os) = _
    rw [stp_add]
    cases stp p os i st <;> rfl
theorem hop_more {p h : Nat} {os : List Od} {c s : Nat × Nat} (k : NetOk p h os) (e : hop p os c = some s) : c.2 < s.2 := by
  unfold hop at e
  cases q : idx p os c.1 (c.2 : Int) with
  | none =>
    rw [q] at e
    cases e
  | some j =>
    simp only [q] at e
    have hj := idx_lt q
    rw [List.getElem?_eq_getElem hj] at e
    rw [← Option.some.inj e]
    have := (k.ok _ (List.getElem_mem hj)).e1
    show c.2 < c.2 + _
    omega
theorem stp_more {p h : Nat} {os : List Od} {i : Nat} {st a : Nat × Nat} (ok : NetOk p h os) (ha : stp p os i st = some a) : ∀ {k : Nat}, ∀ {b}, stp p os (i + (k + 1)) st = some b → a.2 < b.2
  | 0, b, hb => by
    have e : (stp p os i st).bind (hop p os) = some b := hb
    rw [ha] at e
    exact hop_more ok e
  | k + 1, b, hb => by
    have e : (stp p os (i + (k + 1)) st).bind (hop p os) = some b := hb
    cases q : stp p os (i + (k + 1)) st with
    | none =>
      rw [q] at e
      cases e
    | some c =>
      rw [q] at e
      have h1 := stp_more ok ha (k := k) q
      have h2 := hop_more ok e
      omega
/-- the letter's last stop up to the day x: it is c, the j-th -/
def LastAt (p : Nat) (os : List Od) (st : Nat × Nat) (x : Nat) (c : Nat × Nat) (j : Nat) : Prop :=
  stp p os j st = some c ∧ c.2 ≤ x ∧ ∀ s, hop p os c = some s → x < s.2
theorem LastAt.uniq {p h : Nat} {os : List Od} {st c c' : Nat × Nat} {x j j' : Nat} (ok : NetOk p h os) (a : LastAt p os st x c j) (b : LastAt p os st x c' j') : c = c' ∧ j = j' := by
  obtain ⟨a1, a2, a3⟩ := a
  obtain ⟨b1, b2, b3⟩ := b
  have key : ∀ {c c' : Nat × Nat} {j j' : Nat}, stp p os j st = some c → (∀ s, hop p os c = some s → x < s.2) → stp p os j' st = some c' → c'.2 ≤ x → j < j' → False := by
    intro c c' j j' h1 h2 h3 h4 lt
    obtain ⟨k, rfl⟩ : ∃ k, j' = (j + 1) + k := ⟨j' - (j + 1), by omega⟩
    have e0 : stp p os (j + 1) st = hop p os c := by
      show (stp p os j st).bind (hop p os) = _
      rw [h1]
      rfl
    cases q : hop p os c with
    | none =>
      rw [stp_add, e0, q] at h3
      cases h3
    | some s =>
      have h5 := h2 s q
      cases k with
      | zero =>
        rw [Nat.add_zero, e0, q] at h3
        rw [← Option.some.inj h3] at h4
        omega
      | succ k =>
        have h6 := stp_more ok (e0.trans q) h3
        omega
  by_cases e : j = j'
  · subst e
    exact ⟨Option.some.inj (a1.symm.trans b1), rfl⟩
  · rcases Nat.lt_or_gt_of_ne e with lt | lt
    · exact (key a1 a3 b1 b2 lt).elim
    · exact (key b1 b3 a1 a2 lt).elim
/-- later by D days, a multiple of the period -/
def shf (D : Nat) (s : Nat × Nat) : Nat × Nat := (s.1, s.2 + D)
theorem hop_shf {p : Nat} {os : List Od} {k : Nat} (s : Nat × Nat) : hop p os (shf (p * k) s) = (hop p os s).map (shf (p * k)) := by
  unfold hop shf
  show (match idx p os s.1 ((s.2 + p * k : Nat) : Int) with | none => none | some j => (os[j]?).map fun o : Od => (o.t, s.2 + p * k + o.e)) = _
  rw [idx_later]
  cases idx p os s.1 (s.2 : Int) with
  | none => rfl
  | some j =>
    show (os[j]?).map _ = ((os[j]?).map _).map _
    rw [Option.map_map]
    congr 1
    funext o
    show (o.t, s.2 + p * k + o.e) = (o.t, s.2 + o.e + p * k)
    rw [show s.2 + p * k + o.e = s.2 + o.e + p * k by omega]
theorem stp_shf {p : Nat} {os : List Od} {k : Nat} (s : Nat × Nat) : ∀ j, stp p os j (shf (p * k) s) = (stp p os j s).map (shf (p * k))
  | 0 => rfl
  | j + 1 => by
    show (stp p os j (shf (p * k) s)).bind (hop p os) = ((stp p os j s).bind (hop p os)).map _
    rw [stp_shf s j]
    cases stp p os j s with
    | none => rfl
    | some c => exact hop_shf c
/-- round after round -/
theorem stp_round {p : Nat} {os : List Od} {b N D k0 : Nat} {st t : Nat × Nat} (hD : D = p * k0) (h1 : stp p os b st = some t) (h2 : stp p os (b + N) st = some (shf D t)) : ∀ (r i : Nat), stp p os (b + i + N * r) st = (stp p os (b + i) st).map (shf (D * r))
  | 0, i => by
    rw [Nat.mul_zero, Nat.mul_zero, Nat.add_zero]
    cases stp p os (b + i) st <;> rfl
  | r + 1, i => by
    have one : ∀ j, stp p os (b + N + j) st = (stp p os (b + j) st).map (shf D) := by
      intro j
      rw [stp_add, h2]
      show stp p os j (shf D t) = _
      rw [stp_add (i := b), h1, hD, stp_shf]
      rfl
    have e : b + i + N * (r + 1) = b + N + (i + N * r) := by
      rw [Nat.mul_add, Nat.mul_one]
      omega
    rw [e, one, show b + (i + N * r) = b + i + N * r by omega, stp_round hD h1 h2 r i, Option.map_map]
    congr 1
    funext s
    show (s.1, s.2 + D * r + D) = (s.1, s.2 + D * (r + 1))
    rw [Nat.mul_add, Nat.mul_one, Nat.add_assoc]
/-- what fol says -/
theorem fol_spec {p : Nat} : ∀ (r d : List (Nat × Nat)), (d.map (plc p)).Nodup →
    (fol p d r = (d ++ r, none) ∧ ((d ++ r).map (plc p)).Nodup) ∨ ∃ m s b t r', d ++ r = m ++ s :: r' ∧ fol p d r = (m ++ [s], some b) ∧ m[b]? = some t ∧ plc p t = plc p s ∧ (m.map (plc p)).Nodup
  | [], d, nd => .inl ⟨by rw [List.append_nil]; rfl, by rw [List.append_nil]; exact nd⟩
  | s :: r, d, nd => by
    unfold fol
    cases q : d.findIdx? (fun t => decide (plc p t = plc p s)) with
    | some b =>
      obtain ⟨hb, hb2, _⟩ := List.findIdx?_eq_some_iff_getElem.mp q
      exact .inr ⟨d, s, b, d[b], r, rfl, rfl, List.getElem?_eq_getElem hb, of_decide_eq_true hb2, nd⟩
    | none =>
      have nd2 : ((d ++ [s]).map (plc p)).Nodup := by
        rw [List.map_append, List.nodup_append]
        refine ⟨nd, by simp, fun x hx y hy => ?_⟩
        rw [List.map_cons, List.map_nil, List.mem_singleton] at hy
        rw [hy]
        intro e
        obtain ⟨t, ht, et⟩ := List.mem_map.mp hx
        have := List.findIdx?_eq_none_iff.mp q t ht
        exact Bool.false_ne_true (this.symm.trans (decide_eq_true (et.trans e)))
      have ih := fol_spec r (d ++ [s]) nd2
      rw [List.append_assoc] at ih
      exact ih
/-- a letter that is delivered, or chases: by its stops -/
theorem folR_cases {p h : Nat} {os : List Od} {st : Nat × Nat} (ok : NetOk p h os) (hh : st.1 < h) :
    (∃ l, folR p h os st = (l, none) ∧ l ≠ [] ∧ (∀ i, l[i]? = stp p os i st) ∧ (l.map (plc p)).Nodup) ∨
    (∃ m s b t k, folR p h os st = (m ++ [s], some b) ∧ (∀ i, i ≤ m.length → (m ++ [s])[i]? = stp p os i st) ∧ m[b]? = some t ∧ s = shf (p * k) t ∧ 0 < p * k ∧ (m.map (plc p)).Nodup) := by
  have hp : 0 < p := ok.p1
  have hlen := way_len p os (h * p + 1) st
  have hget : ∀ {i}, i < h * p + 1 → (way p os (h * p + 1) st)[i]? = stp p os i st := fun hi => way_get hi
  have hho := way_house (n := h * p + 1) ok hh
  have hne : way p os (h * p + 1) st ≠ [] := by
    rw [show way p os (h * p + 1) st = rest p os (h * p + 1) (some st) from rfl, rest_succ]
    exact List.cons_ne_nil _ _
  unfold folR
  generalize way p os (h * p + 1) st = L at hlen hget hho hne
  rcases fol_spec (p := p) L [] List.nodup_nil with ⟨e, nd⟩ | ⟨m, s, b, t, r', e1, e2, e3, e4, nd⟩
  · rw [List.nil_append] at e nd
    refine .inl ⟨L, e, hne, fun i => ?_, nd⟩
    have hb := places_bound hp hho nd
    by_cases c : i < h * p + 1
    · exact hget c
    · have e1 : stp p os L.length st = none := by
        rw [← hget (by omega)]
        exact List.getElem?_eq_none_iff.mpr (Nat.le_refl _)
      have e2 : i = L.length + (i - L.length) := by omega
      rw [e2, stp_add, e1]
      exact List.getElem?_eq_none_iff.mpr (by omega)
  · rw [List.nil_append] at e1
    have hml : m.length < L.length := by
      rw [e1, List.length_append, List.length_cons]
      omega
    have hg : ∀ i, i ≤ m.length → (m ++ [s])[i]? = stp p os i st := fun i hi => by
      rw [← hget (by omega), e1]
      by_cases c : i < m.length
      · rw [List.getElem?_append_left c, List.getElem?_append_left c]
      · obtain rfl : i = m.length := by omega
        rw [List.getElem?_append_right (Nat.le_refl _), List.getElem?_append_right (Nat.le_refl _), Nat.sub_self]
        rfl
    have hbl : b < m.length := (List.getElem?_eq_some_iff.mp e3).1
    have g1 : stp p os b st = some t := by
      rw [← hg b (by omega), List.getElem?_append_left hbl]
      exact e3
    have g2 : stp p os (b + (m.length - b - 1 + 1)) st = some s := by
      rw [show b + (m.length - b - 1 + 1) = m.length by omega, ← hg _ (Nat.le_refl _), List.getElem?_append_right (Nat.le_refl _), Nat.sub_self]
      rfl
    have lt := stp_more (b := s) ok g1 g2
    have h1 : t.1 = s.1 := (Prod.mk.inj e4).1
    have h2 : t.2 % p = s.2 % p := (Prod.mk.inj e4).2
    have hk : s.2 = t.2 + p * (s.2 / p - t.2 / p) := by
      have a1 := Nat.div_add_mod s.2 p
      have a2 := Nat.div_add_mod t.2 p
      have a3 : t.2 / p ≤ s.2 / p := Nat.div_le_div_right (Nat.le_of_lt lt)
      rw [Nat.mul_sub]
      have a4 : p * (t.2 / p) ≤ p * (s.2 / p) := Nat.mul_le_mul_left _ a3
      omega
    refine .inr ⟨m, s, b, t, s.2 / p - t.2 / p, e2, hg, e3, ?_, by omega, nd⟩
    exact Prod.ext h1.symm hk
/-- of an increasing list, those up to a day are its beginning -/
theorem upto {sk x : Nat} : ∀ {l : List (Nat × Nat)}, l.Pairwise (fun a b => a.2 < b.2) → l.filter (fun s => decide (s.2 + sk ≤ x)) = l.take (l.filter fun s => decide (s.2 + sk ≤ x)).length ∧ ∀ s ∈ l.drop (l.filter fun s => decide (s.2 + sk ≤ x)).length, x < s.2 + sk
  | [], _ => ⟨rfl, fun s h => by cases h⟩
  | s :: r, hp => by
    rw [List.pairwise_cons] at hp
    obtain ⟨h1, h2⟩ := upto (sk := sk) (x := x) hp.2
    by_cases c : s.2 + sk ≤ x
    · have e : (s :: r).filter (fun s => decide (s.2 + sk ≤ x)) = s :: r.filter (fun s => decide (s.2 + sk ≤ x)) := List.filter_cons_of_pos (p := fun s : Nat × Nat => decide (s.2 + sk ≤ x)) (decide_eq_true c)
      rw [e, List.length_cons, List.take_succ_cons, List.drop_succ_cons]
      refine ⟨?_, h2⟩
      rw [← h1]
    · have hn : ∀ t ∈ s :: r, x < t.2 + sk := fun t ht => by
        rcases List.mem_cons.mp ht with e | e
        · rw [e]; omega
        · have := hp.1 t e
          omega
      have e0 : (s :: r).filter (fun s => decide (s.2 + sk ≤ x)) = [] := List.filter_eq_nil_iff.mpr fun t ht z => by
        have := hn t ht
        have := of_decide_eq_true z
        omega
      rw [e0]
      exact ⟨rfl, fun t ht => hn t ht⟩
theorem stp_pair {p h : Nat} {os : List Od} {st : Nat × Nat} {l : List (Nat × Nat)} (ok : NetOk p h os) (hl : ∀ i, i < l.length → l[i]? = stp p os i st) : l.Pairwise fun a b => a.2 < b.2 := by
  rw [List.pairwise_iff_getElem]
  intro i j hi hj lt
  have e1 := hl i hi
  have e2 := hl j hj
  rw [List.getElem?_eq_getElem hi] at e1
  rw [List.getElem?_eq_getElem hj] at e2
  obtain ⟨k, rfl⟩ : ∃ k, j = i + (k + 1) := ⟨j - i - 1, by omega⟩
  exact stp_more (b := l[i + (k + 1)]) ok e1.symm e2.symm
def cnt (l : List (Nat × Nat)) (x : Nat) : Nat := (l.filter fun s => decide (s.2 ≤ x)).length
/-- days and hops that a chasing letter has behind it in whole rounds, up to the day x -/
def skips (res : List (Nat × Nat) × Option Nat) (x : Nat) : Nat × Nat := match res.2 with
  | none => (0, 0)
  | some b => match res.1[b]?, res.1.getLast? with
    | some t, some s => if t.2 ≤ x then ((x - t.2) / (s.2 - t.2) * (s.2 - t.2), (x - t.2) / (s.2 - t.2) * (res.1.length - 1 - b)) else (0, 0)
    | _, _ => (0, 0)
def cntS (l : List (Nat × Nat)) (sk x : Nat) : Nat := (l.filter fun s => decide (s.2 + sk ≤ x)).length
theorem cntS_spec {p h : Nat} {os : List Od} {st : Nat × Nat} {l : List (Nat × Nat)} {sk x : Nat} (ok : NetOk p h os) (hl : ∀ i, i < l.length → l[i]? = stp p os i st) :
    cntS l sk x ≤ l.length ∧ (∀ i s, i < cntS l sk x → l[i]? = some s → s.2 + sk ≤ x) ∧ ∀ i s, cntS l sk x ≤ i → l[i]? = some s → x < s.2 + sk := by
  obtain ⟨h1, h2⟩ := upto (sk := sk) (x := x) (stp_pair ok hl)
  have hc : cntS l sk x ≤ l.length := List.length_filter_le _ _
  refine ⟨hc, fun i s hi e => ?_, fun i s hi e => ?_⟩
  · have m : s ∈ l.filter fun s => decide (s.2 + sk ≤ x) := by
      rw [h1]
      refine List.mem_of_getElem? (i := i) ?_
      show (l.take (cntS l sk x))[i]? = some s
      rw [List.getElem?_take_of_lt hi]
      exact e
    exact of_decide_eq_true (List.mem_filter.mp m).2
  · refine h2 s (List.mem_of_getElem? (i := i - cntS l sk x) ?_)
    show (l.drop (cntS l sk x))[i - cntS l sk x]? = some s
    rw [List.getElem?_drop, show cntS l sk x + (i - cntS l sk x) = i by omega]
    exact e
/-- the last stop, as it is computed from what follow says -/
theorem last_of {p h : Nat} {os : List Od} {st : Nat × Nat} {x : Nat} (ok : NetOk p h os) (hh : st.1 < h) (hx : st.2 ≤ x) :
    ∃ c s, cntS (folR p h os st).1 (skips (folR p h os st) x).1 x = c + 1 ∧ (folR p h os st).1[c]? = some s ∧ LastAt p os st x (shf (skips (folR p h os st) x).1 s) (c + (skips (folR p h os st) x).2) ∧
      ((folR p h os st).2.isSome = true → c + 1 < (folR p h os st).1.length) := by
  rcases folR_cases ok hh with ⟨l, e, hne, hl, _⟩ | ⟨m, s, b, t, k, e, hl, hb, hs, hk, _⟩
  · rw [e]
    show ∃ c s, cntS l 0 x = c + 1 ∧ l[c]? = some s ∧ LastAt p os st x (shf 0 s) (c + 0) ∧ (Option.isSome (none : Option Nat) = true → c + 1 < l.length)
    obtain ⟨c1, c2, c3⟩ := cntS_spec (sk := 0) (x := x) ok fun i _ => hl i
    have h0 : l[0]? = some st := hl 0
    have pos : 0 < cntS l 0 x := by
      refine Nat.pos_of_ne_zero fun z => ?_
      have := c3 0 st (by omega) h0
      omega
    obtain ⟨c, hc⟩ : ∃ c, cntS l 0 x = c + 1 := ⟨cntS l 0 x - 1, by omega⟩
    have hcl : c < l.length := by omega
    have hc' := List.getElem?_eq_getElem hcl
    refine ⟨c, l[c], hc, hc', ⟨?_, c2 c _ (by omega) hc', fun s hs => ?_⟩, fun z => by cases z⟩
    · rw [Nat.add_zero, ← hl c]
      exact hc'
    · have e1 : l[c + 1]? = some s := by
        rw [hl (c + 1)]
        show (stp p os c st).bind (hop p os) = _
        rw [← hl c, hc']
        exact hs
      have := c3 (c + 1) s (by omega) e1
      omega
  · rw [e]
    have hbl : b < m.length := (List.getElem?_eq_some_iff.mp hb).1
    have hl' : ∀ i, i < (m ++ [s]).length → (m ++ [s])[i]? = stp p os i st := fun i hi => hl i (by rw [List.length_append, List.length_singleton] at hi; omega)
    have g1 : (m ++ [s])[b]? = some t := by rw [List.getElem?_append_left hbl]; exact hb
    have g2 : (m ++ [s])[m.length]? = some s := by
      rw [List.getElem?_append_right (Nat.le_refl _), Nat.sub_self]
      rfl
    have w1 : stp p os b st = some t := by rw [← hl b (by omega)]; exact g1
    have w2 : stp p os (b + (m.length - b)) st = some (shf (p * k) t) := by
      rw [show b + (m.length - b) = m.length by omega, ← hl _ (Nat.le_refl _), ← hs]
      exact g2
    have hD : s.2 - t.2 = p * k := by
      rw [hs]
      show t.2 + p * k - t.2 = _
      omega
    have esk : skips (m ++ [s], some b) x = if t.2 ≤ x then ((x - t.2) / (p * k) * (p * k), (x - t.2) / (p * k) * (m.length - b)) else (0, 0) := by
      unfold skips
      simp only [g1, List.getLast?_concat, hD]
      rw [List.length_append, List.length_singleton, Nat.add_sub_cancel]
    rw [esk]
    by_cases c : t.2 ≤ x
    · rw [if_pos c]
      generalize hr : (x - t.2) / (p * k) = r
      have q1 := Nat.div_add_mod (x - t.2) (p * k)
      have q2 := Nat.mod_lt (x - t.2) hk
      rw [hr] at q1
      have q3 : p * k * r = r * (p * k) := Nat.mul_comm _ _
      show ∃ c z, cntS (m ++ [s]) (r * (p * k)) x = c + 1 ∧ (m ++ [s])[c]? = some z ∧ LastAt p os st x (shf (r * (p * k)) z) (c + r * (m.length - b)) ∧ (Option.isSome (some b) = true → c + 1 < (m ++ [s]).length)
      obtain ⟨c1, c2, c3⟩ := cntS_spec (sk := r * (p * k)) (x := x) ok hl'
      have lo : b < cntS (m ++ [s]) (r * (p * k)) x := by
        refine Nat.lt_of_not_le fun z => ?_
        have := c3 b t z g1
        omega
      have hi : cntS (m ++ [s]) (r * (p * k)) x ≤ m.length := by
        refine Nat.le_of_not_lt fun z => ?_
        have := c2 m.length s z g2
        have e0 : s.2 = t.2 + p * k := by rw [hs]; rfl
        omega
      obtain ⟨c, hc⟩ : ∃ c, cntS (m ++ [s]) (r * (p * k)) x = c + 1 := ⟨cntS (m ++ [s]) (r * (p * k)) x - 1, by omega⟩
      have hcl : c < (m ++ [s]).length := by rw [List.length_append, List.length_singleton]; omega
      have hc' := List.getElem?_eq_getElem hcl
      have round := stp_round (D := p * k) (k0 := k) rfl w1 w2 r
      have sc : stp p os (c + r * (m.length - b)) st = some (shf (r * (p * k)) ((m ++ [s])[c])) := by
        have e1 := round (c - b)
        rw [show b + (c - b) = c by omega, Nat.mul_comm (m.length - b) r, ← hl c (by omega), hc', Nat.mul_comm (p * k) r] at e1
        exact e1
      refine ⟨c, (m ++ [s])[c], hc, hc', ⟨sc, c2 c _ (by omega) hc', fun z hz => ?_⟩, fun _ => by rw [List.length_append, List.length_singleton]; omega⟩
      have hcl2 : c + 1 < (m ++ [s]).length := by rw [List.length_append, List.length_singleton]; omega
      have hc2' := List.getElem?_eq_getElem hcl2
      have e2 := round (c + 1 - b)
      rw [show b + (c + 1 - b) = c + 1 by omega, Nat.mul_comm (m.length - b) r, ← hl (c + 1) (by omega), hc2', Nat.mul_comm (p * k) r] at e2
      have e3 : stp p os (c + 1 + r * (m.length - b)) st = some z := by
        rw [show c + 1 + r * (m.length - b) = (c + r * (m.length - b)) + 1 by omega]
        show (stp p os (c + r * (m.length - b)) st).bind (hop p os) = _
        rw [sc]
        exact hz
      rw [e3] at e2
      rw [Option.some.inj e2]
      exact c3 (c + 1) _ (by omega) hc2'
    · rw [if_neg c]
      show ∃ c z, cntS (m ++ [s]) 0 x = c + 1 ∧ (m ++ [s])[c]? = some z ∧ LastAt p os st x (shf 0 z) (c + 0) ∧ (Option.isSome (some b) = true → c + 1 < (m ++ [s]).length)
      obtain ⟨c1, c2, c3⟩ := cntS_spec (sk := 0) (x := x) ok hl'
      have h0 : (m ++ [s])[0]? = some st := hl 0 (Nat.zero_le _)
      have pos : 0 < cntS (m ++ [s]) 0 x := by
        refine Nat.pos_of_ne_zero fun z => ?_
        have := c3 0 st (by omega) h0
        omega
      have hi : cntS (m ++ [s]) 0 x ≤ b := by
        refine Nat.le_of_not_lt fun z => ?_
        have := c2 b t z g1
        omega
      obtain ⟨c, hc⟩ : ∃ c, cntS (m ++ [s]) 0 x = c + 1 := ⟨cntS (m ++ [s]) 0 x - 1, by omega⟩
      have hcl : c < (m ++ [s]).length := by rw [List.length_append, List.length_singleton]; omega
      have hc' := List.getElem?_eq_getElem hcl
      have sc : stp p os c st = some ((m ++ [s])[c]) := by
        rw [← hl c (by omega)]
        exact hc'
      refine ⟨c, (m ++ [s])[c], hc, hc', ⟨sc, c2 c _ (by omega) hc', fun z hz => ?_⟩, fun _ => by rw [List.length_append, List.length_singleton]; omega⟩
      have e3 : (m ++ [s])[c + 1]? = some z := by
        rw [hl (c + 1) (by omega)]
        show (stp p os c st).bind (hop p os) = _
        rw [sc]
        exact hz
      have := c3 (c + 1) z (by omega) e3
      omega
/-! ### stops as data -/
theorem fol_first {p : Nat} {s : Nat × Nat} {r : List (Nat × Nat)} : fol p [] (s :: r) = fol p [s] r := by simp [fol]
def plD (s : Nat × Nat) : PyData := .tuple [.int s.1, .int s.2]
theorem plD_shaped (s : Nat × Nat) : PySem.SeqAt.shaped (plD s) = true := by
  show ((plD s).canLay0 && decide ((plD s).depth ≤ 64)) = true
  rw [Bool.and_eq_true]
  refine ⟨by simp [plD, PyData.canLay0, PyData.canLayAll0], decide_eq_true ?_⟩
  have e : (plD s).depth = 1 := by simp [plD, PyData.depth, PyData.depthAll]
  omega
theorem plDs_lay : ∀ l : List (Nat × Nat), PyData.canLayAll0 (l.map plD) = true
  | [] => by simp [PyData.canLayAll0]
  | s :: l => by
    have h : (plD s).canLay0 = true := by simp [plD, PyData.canLay0, PyData.canLayAll0]
    simp [PyData.canLayAll0, h, plDs_lay l]
theorem plDs_depth : ∀ l : List (Nat × Nat), PyData.depthAll (l.map plD) ≤ 1
  | [] => by simp [PyData.depthAll]
  | s :: l => by
    have h1 := plDs_depth l
    have h2 : (plD s).depth = 1 := by simp [plD, PyData.depth, PyData.depthAll]
    simp only [List.map_cons, PyData.depthAll]
    omega
theorem plDs_shaped (l : List (Nat × Nat)) : PySem.SeqAt.shaped (.list (l.map plD)) = true := by
  have h1 := plDs_depth l
  show (PyData.canLay0 (.list (l.map plD)) && decide (PyData.depth (.list (l.map plD)) ≤ 64)) = true
  rw [Bool.and_eq_true]
  refine ⟨by simp only [PyData.canLay0]; exact plDs_lay l, decide_eq_true ?_⟩
  simp only [PyData.depth]
  omega
theorem plD_eqv (s t : Nat × Nat) : PyData.eqv (plD s) (plD t) = decide (s = t) := by
  obtain ⟨a, b⟩ := s
  obtain ⟨c, d⟩ := t
  have e : PyData.eqv (plD (a, b)) (plD (c, d)) = (((a : Int) == (c : Int)) && (((b : Int) == (d : Int)) && true)) := by simp only [plD, PyData.eqv, PyData.eqvAll]
  rw [e]
  by_cases h : ((a, b) : Nat × Nat) = (c, d)
  · cases h
    simp
  · rw [decide_eq_false h]
    by_cases h1 : a = c
    · have h2 : ¬ (b : Int) = (d : Int) := fun z => h (by rw [h1, show b = d by omega])
      have e2 : ((b : Int) == (d : Int)) = false := beq_eq_false_iff_ne.mpr h2
      rw [e2, Bool.false_and, Bool.and_false]
    · have e2 : ((a : Int) == (c : Int)) = false := beq_eq_false_iff_ne.mpr (by omega)
      rw [e2, Bool.false_and]
theorem stop_dp {K : PySem.W.Frag} {H : Hp} {v : V} {s : Nat × Nat} (h : StopAt H v s) : Dp K H v (plD s) := by
  obtain ⟨u, rfl, hu⟩ := h
  exact .tup (SqT.of hu) (.cons (.int _) (.cons (.int _) .nil))
theorem stops_dp {K : PySem.W.Frag} {H : Hp} {vs : List V} {l : List (Nat × Nat)} (h : Paired (StopAt H) vs l) : DpAll K H vs (l.map plD) := by
  induction h with
  | nil => exact .nil
  | cons r _ ih => exact .cons (stop_dp r) ih
/-! ### days of a house: plain -/
/-- the three lists of day_sets: by the days below n -/
def arr (p h : Nat) (os : List Od) (hs n : Nat) : List Nat := (List.range n).filter fun d => (folR p h os (hs, d)).2.isNone
def chs (p h : Nat) (os : List Od) (hs n : Nat) : List Nat := (List.range n).filter fun d => (folR p h os (hs, d)).2.isSome
def ret (p h : Nat) (os : List Od) (hs n : Nat) : List Nat := (List.range n).filter fun d => ((folR p h os (hs, d)).1.drop 1).any fun s => decide (s.1 = hs)
theorem filter_nints {n : Nat} {f : Nat → Bool} (h : f n = true) : nints ((List.range (n + 1)).filter f) = nints ((List.range n).filter f) ++ [.int (n : Nat)] := by
  rw [filter_range_succ', if_pos h]
  unfold nints
  rw [List.map_append]
  rfl
theorem filter_nints' {n : Nat} {f : Nat → Bool} (h : f n = false) : nints ((List.range (n + 1)).filter f) = nints ((List.range n).filter f) := by
  rw [filter_range_succ', if_neg (by rw [h]; exact Bool.false_ne_true), List.append_nil]
theorem nints_small {n : Nat} {f : Nat → Bool} (h : n ≤ 30) : (nints ((List.range n).filter f)).length < sizeLine := by
  unfold nints
  rw [List.length_map]
  exact small1000 (Nat.le_trans (List.length_filter_le _ _) (by rw [List.length_range]; omega))
/-! ### equal data (nested lists and tuples of None, bools, ints, texts) -/
def Flat1 (v : V) : Prop := v = .non ∨ (∃ b, v = .bl b) ∨ (∃ i, v = .int i) ∨ ∃ s, v = .str s
def Eqv : Nat → Hp → V → V → Prop
  | 0, _, a, b => a = b ∧ Flat1 a
  | n + 1, H, a, b => (a = b ∧ Flat1 a) ∨ (∃ p q xs ys, a = .ref p ∧ b = .ref q ∧ H p = some (.tup xs) ∧ H q = some (.tup ys) ∧ xs.length ≤ 1000 ∧ Paired (Eqv n H) xs ys) ∨
      ∃ p q xs ys, a = .ref p ∧ b = .ref q ∧ H p = some (.lst xs) ∧ H q = some (.lst ys) ∧ xs.length ≤ 1000 ∧ Paired (Eqv n H) xs ys
theorem Eqv.flat {n : Nat} {H : Hp} {a b : V} (e : a = b) (f : Flat1 a) : Eqv n H a b := by
  cases n with
  | zero => exact ⟨e, f⟩
  | succ n => exact .inl ⟨e, f⟩
theorem Eqv.int {n : Nat} {H : Hp} {i : Int} : Eqv n H (.int i) (.int i) := Eqv.flat rfl (.inr (.inr (.inl ⟨i, rfl⟩)))
theorem Eqv.non {n : Nat} {H : Hp} : Eqv n H .non .non := Eqv.flat rfl (.inl rfl)
theorem Eqv.same : ∀ {n : Nat} {H H' : Hp} {a b : V}, Same H H' → Eqv n H a b → Eqv n H' a b
  | 0, _, _, _, _, _, h => h
  | n + 1, H, H', a, b, s, h => by
    rcases h with h | ⟨p, q, xs, ys, e1, e2, h1, h2, h3, h4⟩ | ⟨p, q, xs, ys, e1, e2, h1, h2, h3, h4⟩
    · exact .inl h
    · exact .inr (.inl ⟨p, q, xs, ys, e1, e2, s _ _ h1, s _ _ h2, h3, Paired.mapP h4 fun _ _ z => Eqv.same s z⟩)
    · exact .inr (.inr ⟨p, q, xs, ys, e1, e2, s _ _ h1, s _ _ h2, h3, Paired.mapP h4 fun _ _ z => Eqv.same s z⟩)
abbrev s_l_equal : Stmt := top 47
abbrev N_l_equal : List Str := ["_law_actual", "_law_expected", "_law_k"]
abbrev P_l_equal : List Str := ["_law_actual", "_law_expected"]
theorem sc_l_equal : FnScope N_l_equal P_l_equal (defScope s_l_equal) := ⟨rfl, rfl, rfl, by decide +kernel, rfl, by decide +kernel, by decide +kernel⟩
def spEqual (n : Nat) : Sp := fun vs H Q _ => ∃ (a b : V), vs = [a, b] ∧ Eqv n H a b ∧ ∀ H', Same H H' → Q (.bl true) H'
section
variable {P : Program} {w : World} {K : PySem.W.Frag} {mg : Str → Option Value} {base : Heap}
theorem bl_ne {x y : Bool} (e : x = y) : (!decide (V.bl x = V.bl y)) = false := by
  rw [decide_eq_true (by rw [e])]
  rfl
theorem ok_equal {f : Addr} {fd : FuncData} (F : Fun K "_law_equal" "_law_equal" s_l_equal f fd) (B : Blt mg) (gE : mg "_law_equal" = some (.ref f)) (bE : Binds K fd P_l_equal []) : ∀ n, FnOk P w K mg base CX0 (n + 1) f fd P_l_equal (spEqual n) := by
  intro n
  induction n with
  | zero =>
    refine F.ok sc_l_equal (fun vs H Q E h => ?_) (fun cdv A outer s H vs Q E hr h => ?_)
    · obtain ⟨a, b, rfl, _⟩ := h
      rfl
    · obtain ⟨a, b, rfl, ⟨rfl, hf⟩, q⟩ := h
      refine ⟨_, pss_cons (ps_if (pt_cmpR op_isN (pv 1) pe_non (nomark _)) (pss_one (ps_ret (pe_cmpR op_isN (pv 0) pe_non (nomark _)))) pss_nil)
        (pss_cons (ps_if (pt_val (pe_callB call_isi (by rfl) B.isi PyProof.Rows.boot_isinstance (pa_cons (pv 1) (pa_cons (pe_bltn (v := .ty "bool") (by rfl) B.bool (by decide +kernel) rfl) pa_nil))))
          (pss_one (ps_ret (pe_and (pe_callB call_isi (by rfl) B.isi PyProof.Rows.boot_isinstance (pa_cons (pv 0) (pa_cons (pe_bltn (v := .ty "bool") (by rfl) B.bool (by decide +kernel) rfl) pa_nil))) (pe_one (pe_cmpR op_eq (pv 0) (pv 1) (nomark _)))))) pss_nil)
        (pss_cons (ps_if (pt_val (pe_callB call_isi (by rfl) B.isi PyProof.Rows.boot_isinstance (pa_cons (pv 1) (pa_cons (pe_bltn (v := .ty "int") (by rfl) B.int (by decide +kernel) rfl) pa_nil))))
          (pss_one (ps_ret (pe_and (pe_callB call_isi (by rfl) B.isi PyProof.Rows.boot_isinstance (pa_cons (pv 0) (pa_cons (pe_bltn (v := .ty "int") (by rfl) B.int (by decide +kernel) rfl) pa_nil)))
            (pe_and (pe_not (pe_callB call_isi (by rfl) B.isi PyProof.Rows.boot_isinstance (pa_cons (pv 0) (pa_cons (pe_bltn (v := .ty "bool") (by rfl) B.bool (by decide +kernel) rfl) pa_nil)))) (pe_one (pe_cmpR op_eq (pv 0) (pv 1) (nomark _))))))) pss_nil)
        (pss_cons (ps_if (pt_val (pe_callB call_isi (by rfl) B.isi PyProof.Rows.boot_isinstance (pa_cons (pv 1) (pa_cons (pe_bltn (v := .ty "str") (by rfl) B.str (by decide +kernel) rfl) pa_nil))))
          (pss_one (ps_ret (pe_and (pe_callB call_isi (by rfl) B.isi PyProof.Rows.boot_isinstance (pa_cons (pv 0) (pa_cons (pe_bltn (v := .ty "str") (by rfl) B.str (by decide +kernel) rfl) pa_nil))) (pe_one (pe_cmpR op_eq (pv 0) (pv 1) (nomark _)))))) pss_nil)
        (pss_cons ps_never (pss_cons ps_never (pss_cons ps_never (pss_one ps_never))))))), ?_⟩
      rcases hf with rfl | ⟨y, rfl⟩ | ⟨y, rfl⟩ | ⟨y, rfl⟩
      · refine ⟨_, rfl, rfl, _, rfl, iteT ⟨_, rfl, rfl, ?_⟩⟩
        exact q H (.refl H)
      · refine ⟨_, rfl, rfl, _, rfl, iteF ⟨_, rfl, _, _, _, _, true, rfl, .ty "bool", .base (.bl y), kit_ty (by decide +kernel), _, rfl, iteT ?_⟩⟩
        refine ⟨_, rfl, _, _, _, _, true, rfl, .ty "bool", .base (.bl y), kit_ty (by decide +kernel), _, rfl, iteT ⟨_, rfl, _, rfl, by cases y <;> rfl, ?_⟩⟩
        rw [decide_eq_true rfl]
        exact q H (.refl H)
      · refine ⟨_, rfl, rfl, _, rfl, iteF ⟨_, rfl, _, _, _, _, false, rfl, .ty "bool", .base (.int y), kit_ty (by decide +kernel), _, rfl, iteF ?_⟩⟩
        refine ⟨_, rfl, _, _, _, _, true, rfl, .ty "int", .base (.int y), kit_ty (by decide +kernel), _, rfl, iteT ?_⟩
        refine ⟨_, rfl, _, _, _, _, true, rfl, .ty "int", .base (.int y), kit_ty (by decide +kernel), _, rfl, iteT ?_⟩
        refine ⟨_, rfl, _, _, _, _, false, rfl, .ty "bool", .base (.int y), kit_ty (by decide +kernel), _, rfl, _, rfl, iteT ⟨_, rfl, _, rfl, rfl, ?_⟩⟩
        rw [decide_eq_true rfl]
        exact q H (.refl H)
      · refine ⟨_, rfl, rfl, _, rfl, iteF ⟨_, rfl, _, _, _, _, false, rfl, .ty "bool", .base (.str y), kit_ty (by decide +kernel), _, rfl, iteF ?_⟩⟩
        refine ⟨_, rfl, _, _, _, _, false, rfl, .ty "int", .base (.str y), kit_ty (by decide +kernel), _, rfl, iteF ?_⟩
        refine ⟨_, rfl, _, _, _, _, true, rfl, .ty "str", .base (.str y), kit_ty (by decide +kernel), _, rfl, iteT ?_⟩
        refine ⟨_, rfl, _, _, _, _, true, rfl, .ty "str", .base (.str y), kit_ty (by decide +kernel), _, rfl, iteT ⟨_, rfl, _, rfl, rfl, ?_⟩⟩
        rw [decide_eq_true rfl]
        exact q H (.refl H)
  | succ n ih =>
    refine F.ok sc_l_equal (fun vs H Q E h => ?_) (fun cdv A outer s H vs Q E hr h => ?_)
    · obtain ⟨a, b, rfl, _⟩ := h
      rfl
    · obtain ⟨a, b, rfl, he, q⟩ := h
      refine ⟨_, pss_cons (ps_if (pt_cmpR op_isN (pv 1) pe_non (nomark _)) (pss_one (ps_ret (pe_cmpR op_isN (pv 0) pe_non (nomark _)))) pss_nil)
        (pss_cons (ps_if (pt_val (pe_callB call_isi (by rfl) B.isi PyProof.Rows.boot_isinstance (pa_cons (pv 1) (pa_cons (pe_bltn (v := .ty "bool") (by rfl) B.bool (by decide +kernel) rfl) pa_nil))))
          (pss_one (ps_ret (pe_and (pe_callB call_isi (by rfl) B.isi PyProof.Rows.boot_isinstance (pa_cons (pv 0) (pa_cons (pe_bltn (v := .ty "bool") (by rfl) B.bool (by decide +kernel) rfl) pa_nil))) (pe_one (pe_cmpR op_eq (pv 0) (pv 1) (nomark _)))))) pss_nil)
        (pss_cons (ps_if (pt_val (pe_callB call_isi (by rfl) B.isi PyProof.Rows.boot_isinstance (pa_cons (pv 1) (pa_cons (pe_bltn (v := .ty "int") (by rfl) B.int (by decide +kernel) rfl) pa_nil))))
          (pss_one (ps_ret (pe_and (pe_callB call_isi (by rfl) B.isi PyProof.Rows.boot_isinstance (pa_cons (pv 0) (pa_cons (pe_bltn (v := .ty "int") (by rfl) B.int (by decide +kernel) rfl) pa_nil)))
            (pe_and (pe_not (pe_callB call_isi (by rfl) B.isi PyProof.Rows.boot_isinstance (pa_cons (pv 0) (pa_cons (pe_bltn (v := .ty "bool") (by rfl) B.bool (by decide +kernel) rfl) pa_nil)))) (pe_one (pe_cmpR op_eq (pv 0) (pv 1) (nomark _))))))) pss_nil)
        (pss_cons (ps_if (pt_val (pe_callB call_isi (by rfl) B.isi PyProof.Rows.boot_isinstance (pa_cons (pv 1) (pa_cons (pe_bltn (v := .ty "str") (by rfl) B.str (by decide +kernel) rfl) pa_nil))))
          (pss_one (ps_ret (pe_and (pe_callB call_isi (by rfl) B.isi PyProof.Rows.boot_isinstance (pa_cons (pv 0) (pa_cons (pe_bltn (v := .ty "str") (by rfl) B.str (by decide +kernel) rfl) pa_nil))) (pe_one (pe_cmpR op_eq (pv 0) (pv 1) (nomark _)))))) pss_nil)
        (pss_cons (ps_if (pt_cmpR op_ne (pe_callB call_isi (by rfl) B.isi PyProof.Rows.boot_isinstance (pa_cons (pv 1) (pa_cons (pe_bltn (v := .ty "tuple") (by rfl) B.tuple (by decide +kernel) rfl) pa_nil)))
            (pe_callB call_isi (by rfl) B.isi PyProof.Rows.boot_isinstance (pa_cons (pv 0) (pa_cons (pe_bltn (v := .ty "tuple") (by rfl) B.tuple (by decide +kernel) rfl) pa_nil))) (nomark _)) (pss_one (ps_ret pe_bl)) pss_nil)
        (pss_cons (ps_if (pt_cmpR op_ne (pe_callB call_isi (by rfl) B.isi PyProof.Rows.boot_isinstance (pa_cons (pv 1) (pa_cons (pe_bltn (v := .ty "list") (by rfl) B.list (by decide +kernel) rfl) pa_nil)))
            (pe_callB call_isi (by rfl) B.isi PyProof.Rows.boot_isinstance (pa_cons (pv 0) (pa_cons (pe_bltn (v := .ty "list") (by rfl) B.list (by decide +kernel) rfl) pa_nil))) (nomark _)) (pss_one (ps_ret pe_bl)) pss_nil)
        (pss_cons (ps_if (pt_cmpR op_ne (pe_callB call_len_seq (by rfl) B.len PySem.boot_len (pa_cons (pv 0) pa_nil)) (pe_callB call_len_seq (by rfl) B.len PySem.boot_len (pa_cons (pv 1) pa_nil)) (nomark _)) (pss_one (ps_ret pe_bl)) pss_nil)
        (pss_one (ps_ret (pe_callB (cr_all rfl) (by rfl) B.all PyProof.Rows.boot_all (pa_cons (pe_lc (own := [("_law_k", 2)]) (g := gName 2) (tt := tYes) (by rfl) sc_l_equal.nd
            (pi_range1 rfl B.range (pa_cons (pe_callB call_len_seq (by rfl) B.len PySem.boot_len (pa_cons (pv 1) pa_nil)) pa_nil)) (blkOk_by (N := N_l_equal) (sc := defScope s_l_equal) (by decide +kernel))
            (fun _ _ _ _ _ => pg_name (i := 2) sc_l_equal.nd rfl (.inl rfl)) (fun _ _ _ _ _ => pts_nil)
            (te := tCall (spEqual n) [] E0 (tCons (tOp (rIx K) (tVar 0) (tVar 2)) (tCons (tOp (rIx K) (tVar 1) (tVar 2)) tNil)))
            (fun _ _ _ _ _ => pe_call ih hr (by rfl) gE F.kp bE .nil pass0 (pa_cons (pe_ix ix_seq (pv 0) (pv 2) (fun _ _ => rfl)) (pa_cons (pe_ix ix_seq (pv 1) (pv 2) (fun _ _ => rfl)) pa_nil)))) pa_nil)))))))))), ?_⟩
      rcases he with ⟨rfl, hf⟩ | ⟨p1, p2, xs, ys, rfl, rfl, h1, h2, hl, hP⟩ | ⟨p1, p2, xs, ys, rfl, rfl, h1, h2, hl, hP⟩
      · rcases hf with rfl | ⟨y, rfl⟩ | ⟨y, rfl⟩ | ⟨y, rfl⟩
        · refine ⟨_, rfl, rfl, _, rfl, iteT ⟨_, rfl, rfl, ?_⟩⟩
          exact q H (.refl H)
        · refine ⟨_, rfl, rfl, _, rfl, iteF ⟨_, rfl, _, _, _, _, true, rfl, .ty "bool", .base (.bl y), kit_ty (by decide +kernel), _, rfl, iteT ?_⟩⟩
          refine ⟨_, rfl, _, _, _, _, true, rfl, .ty "bool", .base (.bl y), kit_ty (by decide +kernel), _, rfl, iteT ⟨_, rfl, _, rfl, by cases y <;> rfl, ?_⟩⟩
          rw [decide_eq_true rfl]
          exact q H (.refl H)
        · refine ⟨_, rfl, rfl, _, rfl, iteF ⟨_, rfl, _, _, _, _, false, rfl, .ty "bool", .base (.int y), kit_ty (by decide +kernel), _, rfl, iteF ?_⟩⟩
          refine ⟨_, rfl, _, _, _, _, true, rfl, .ty "int", .base (.int y), kit_ty (by decide +kernel), _, rfl, iteT ?_⟩
          refine ⟨_, rfl, _, _, _, _, true, rfl, .ty "int", .base (.int y), kit_ty (by decide +kernel), _, rfl, iteT ?_⟩
          refine ⟨_, rfl, _, _, _, _, false, rfl, .ty "bool", .base (.int y), kit_ty (by decide +kernel), _, rfl, _, rfl, iteT ⟨_, rfl, _, rfl, rfl, ?_⟩⟩
          rw [decide_eq_true rfl]
          exact q H (.refl H)
        · refine ⟨_, rfl, rfl, _, rfl, iteF ⟨_, rfl, _, _, _, _, false, rfl, .ty "bool", .base (.str y), kit_ty (by decide +kernel), _, rfl, iteF ?_⟩⟩
          refine ⟨_, rfl, _, _, _, _, false, rfl, .ty "int", .base (.str y), kit_ty (by decide +kernel), _, rfl, iteF ?_⟩
          refine ⟨_, rfl, _, _, _, _, true, rfl, .ty "str", .base (.str y), kit_ty (by decide +kernel), _, rfl, iteT ?_⟩
          refine ⟨_, rfl, _, _, _, _, true, rfl, .ty "str", .base (.str y), kit_ty (by decide +kernel), _, rfl, iteT ⟨_, rfl, _, rfl, rfl, ?_⟩⟩
          rw [decide_eq_true rfl]
          exact q H (.refl H)
      · have el := hP.length
        refine ⟨_, rfl, rfl, _, rfl, iteF ⟨_, rfl, _, _, _, _, false, rfl, .ty "bool", .base (.tup h2), kit_ty (by decide +kernel), _, rfl, iteF ?_⟩⟩
        refine ⟨_, rfl, _, _, _, _, false, rfl, .ty "int", .base (.tup h2), kit_ty (by decide +kernel), _, rfl, iteF ?_⟩
        refine ⟨_, rfl, _, _, _, _, false, rfl, .ty "str", .base (.tup h2), kit_ty (by decide +kernel), _, rfl, iteF ?_⟩
        refine ⟨_, rfl, _, _, _, _, true, rfl, .ty "tuple", .base (.tup h2), kit_ty (by decide +kernel), _, rfl, _, _, _, _, true, rfl, .ty "tuple", .base (.tup h1), kit_ty (by decide +kernel), rfl, _, rfl, ?_⟩
        rw [bl_ne rfl]
        refine iteF ⟨_, rfl, _, _, _, _, false, rfl, .ty "list", .base (.tup h2), kit_ty (by decide +kernel), _, rfl, _, _, _, _, false, rfl, .ty "list", .base (.tup h1), kit_ty (by decide +kernel), rfl, _, rfl, ?_⟩
        rw [bl_ne rfl]
        refine iteF ⟨_, rfl, p1, xs, rfl, .inr (SqT.of h1), _, rfl, p2, ys, rfl, .inr (SqT.of h2), rfl, _, rfl, ?_⟩
        rw [show (!decide (V.int (xs.length : Int) = V.int (ys.length : Int))) = false by rw [el, decide_eq_true rfl]; rfl]
        refine iteF ⟨_, rfl, p2, ys, rfl, .inr (SqT.of h2), ys.length, rfl, by omega, by omega, fun D nD => ?_⟩
        refine lc_range (lo := 0) (n := (ys.length : Int).toNat) (fun i H' => Same H H' ∧ H' D = some (.lst ((List.replicate i true).map V.bl))) ⟨same_upd nD, upd_same⟩ ?_ ?_
        · rintro i H' hi ⟨s1, hD⟩
          have hi2 : i < ys.length := by omega
          obtain ⟨x, hx, hxy⟩ := Paired.get? (i := i) hP (List.getElem?_eq_getElem hi2)
          refine ⟨rfl, _, rfl, _, rfl, .inr (.inl ⟨p1, xs, ((i : Nat) : Int), x, rfl, by show V.int (0 + (i : Int)) = _; rw [Int.zero_add], SqT.of (s1 _ _ h1), atI_nat hx, ?_⟩)⟩
          refine ⟨_, rfl, _, rfl, .inr (.inl ⟨p2, ys, ((i : Nat) : Int), _, rfl, by show V.int (0 + (i : Int)) = _; rw [Int.zero_add], SqT.of (s1 _ _ h2), atI_nat (List.getElem?_eq_getElem hi2), ?_⟩)⟩
          refine ⟨x, _, rfl, hxy.same s1, fun H2 s2 => ?_⟩
          refine ⟨_, s2 _ _ hD, ?_, same_updN (s1.trans s2) nD, ?_⟩
          · rw [List.length_map, List.length_replicate]
            exact small1000 (by omega)
          · rw [upd_same, List.replicate_succ', List.map_append]
            rfl
        · rintro H' ⟨s1, hD⟩
          refine ⟨D, _, rfl, SqL.of hD, ?_⟩
          rw [show (List.replicate (ys.length : Int).toNat true).all id = true by simp]
          exact q _ s1
      · have el := hP.length
        refine ⟨_, rfl, rfl, _, rfl, iteF ⟨_, rfl, _, _, _, _, false, rfl, .ty "bool", .base (.lst h2), kit_ty (by decide +kernel), _, rfl, iteF ?_⟩⟩
        refine ⟨_, rfl, _, _, _, _, false, rfl, .ty "int", .base (.lst h2), kit_ty (by decide +kernel), _, rfl, iteF ?_⟩
        refine ⟨_, rfl, _, _, _, _, false, rfl, .ty "str", .base (.lst h2), kit_ty (by decide +kernel), _, rfl, iteF ?_⟩
        refine ⟨_, rfl, _, _, _, _, false, rfl, .ty "tuple", .base (.lst h2), kit_ty (by decide +kernel), _, rfl, _, _, _, _, false, rfl, .ty "tuple", .base (.lst h1), kit_ty (by decide +kernel), rfl, _, rfl, ?_⟩
        rw [bl_ne rfl]
        refine iteF ⟨_, rfl, _, _, _, _, true, rfl, .ty "list", .base (.lst h2), kit_ty (by decide +kernel), _, rfl, _, _, _, _, true, rfl, .ty "list", .base (.lst h1), kit_ty (by decide +kernel), rfl, _, rfl, ?_⟩
        rw [bl_ne rfl]
        refine iteF ⟨_, rfl, p1, xs, rfl, .inl (SqL.of h1), _, rfl, p2, ys, rfl, .inl (SqL.of h2), rfl, _, rfl, ?_⟩
        rw [show (!decide (V.int (xs.length : Int) = V.int (ys.length : Int))) = false by rw [el, decide_eq_true rfl]; rfl]
        refine iteF ⟨_, rfl, p2, ys, rfl, .inl (SqL.of h2), ys.length, rfl, by omega, by omega, fun D nD => ?_⟩
        refine lc_range (lo := 0) (n := (ys.length : Int).toNat) (fun i H' => Same H H' ∧ H' D = some (.lst ((List.replicate i true).map V.bl))) ⟨same_upd nD, upd_same⟩ ?_ ?_
        · rintro i H' hi ⟨s1, hD⟩
          have hi2 : i < ys.length := by omega
          obtain ⟨x, hx, hxy⟩ := Paired.get? (i := i) hP (List.getElem?_eq_getElem hi2)
          refine ⟨rfl, _, rfl, _, rfl, .inl ⟨p1, xs, ((i : Nat) : Int), x, rfl, by show V.int (0 + (i : Int)) = _; rw [Int.zero_add], SqL.of (s1 _ _ h1), atI_nat hx, ?_⟩⟩
          refine ⟨_, rfl, _, rfl, .inl ⟨p2, ys, ((i : Nat) : Int), _, rfl, by show V.int (0 + (i : Int)) = _; rw [Int.zero_add], SqL.of (s1 _ _ h2), atI_nat (List.getElem?_eq_getElem hi2), ?_⟩⟩
          refine ⟨x, _, rfl, hxy.same s1, fun H2 s2 => ?_⟩
          refine ⟨_, s2 _ _ hD, ?_, same_updN (s1.trans s2) nD, ?_⟩
          · rw [List.length_map, List.length_replicate]
            exact small1000 (by omega)
          · rw [upd_same, List.replicate_succ', List.map_append]
            rfl
        · rintro H' ⟨s1, hD⟩
          refine ⟨D, _, rfl, SqL.of hD, ?_⟩
          rw [show (List.replicate (ys.length : Int).toNat true).all id = true by simp]
          exact q _ s1
end
theorem optEqv {H : Hp} {v v' : V} {o : Option (Nat × Nat)} (h : OptStop H v o) (h' : OptStop H v' o) : Eqv 1 H v v' := by
  cases o with
  | none =>
    obtain rfl : v = .non := h
    obtain rfl : v' = .non := h'
    exact Eqv.non
  | some s =>
    obtain ⟨u, rfl, hu⟩ := h
    obtain ⟨u2, rfl, hu2⟩ := h'
    exact .inr (.inl ⟨u, u2, _, _, rfl, rfl, hu, hu2, by show 2 ≤ 1000; decide, .cons Eqv.int (.cons Eqv.int .nil)⟩)
theorem OptStop.keep {H H' : Hp} {v : V} {o : Option (Nat × Nat)} (k : TupKeep H H') (h : OptStop H v o) : OptStop H' v o := by
  cases o with
  | none => exact h
  | some s => exact StopAt.keep k h
abbrev s_l_net : Stmt := top 44
abbrev N_l_net : List Str := ["_law_parts"]
abbrev P_l_net : List Str := ["_law_parts"]
theorem sc_l_net : FnScope N_l_net P_l_net (defScope s_l_net) := ⟨rfl, rfl, rfl, by decide +kernel, rfl, by decide +kernel, by decide +kernel⟩
/-! ### the law's helper: a net of parts -/
def spNet (C : Addr) : Sp := fun vs H Q _ => ∃ (a t : Addr) (p h : Nat) (os : List Od), vs = [.ref a] ∧ H a = some (.tup [.int p, .int h, .ref t]) ∧ OrdsTup H t os ∧ NetOk p h os ∧
  ∀ H' x F, Same H H' → (∀ b ∈ F, H b = none) → NetAt C H' x p h os t F → Q (.ref x) H'
section
variable {P : Program} {w : World} {K : PySem.W.Frag} {mg : Str → Option Value} {base : Heap}
theorem ok_net {f C fI : Addr} {fd fdI : FuncData} (F : Fun K "_law_net" "_law_net" s_l_net f fd) (M : Mk K C fI) (gC : mg "Net" = some (.ref C)) (GI : FnOk P w K mg base CX0 5 fI fdI P_Net_init (spInit C)) (bI : Binds K fdI P_Net_init []) : FnOk P w K mg base CX0 7 f fd P_l_net (spNet C) := by
  refine F.ok sc_l_net (fun vs H Q E h => ?_) (fun cdv A outer s H vs Q E hr h => ?_)
  · obtain ⟨a, t, p, h, os, rfl, _⟩ := h
    rfl
  · obtain ⟨a, t, p, h, os, rfl, ha, hO, ok, q⟩ := h
    refine ⟨_, pss_one (ps_ret (pe_make M GI hr (by rfl) gC bI .nil pass0 (pa_cons (pe_ix ix_tup (pv 0) pe_int (fun _ _ => rfl)) (pa_cons (pe_ix ix_tup (pv 0) pe_int (fun _ _ => rfl)) (pa_cons (pe_ix ix_tup (pv 0) pe_int (fun _ _ => rfl)) pa_nil))))), ?_⟩
    refine ⟨_, rfl, a, _, 0, _, rfl, rfl, SqT.of ha, atI_nat (j := 0) rfl, _, rfl, a, _, 1, _, rfl, rfl, SqT.of ha, atI_nat (j := 1) rfl, _, rfl, a, _, 2, _, rfl, rfl, SqT.of ha, atI_nat (j := 2) rfl, ?_⟩
    intro x dx nx ndx nex
    have s0 : Same H (upd (upd H dx (.own x)) x (.ins C dx [])) := same_updN (same_upd ndx) nx
    exact ⟨x, dx, t, p, h, os, H, rfl, ok, hO.keep (tk_of s0), s0, nx, upd_same, fun H' F s1 nF N => ⟨rfl, q H' x F s1 nF N⟩⟩
end
/-! ### the law -/
def spLaw (K : PySem.W.Frag) : Sp := fun vs H Q _ => ∃ (a : Addr) (ns : List Int), vs = [.ref a] ∧ SqL K H a (ns.map V.int) ∧ ns.length ≤ 63 ∧ ∀ H', Q (.bl true) H'
/-- all that the law's step leans on, at the heap H -/
structure StepAt (C : Addr) (H : Hp) (d ap x t : Addr) (p h : Nat) (os : List Od) (F : List Addr) : Prop where
  D : DAt H d
  pa : H ap = some (.tup [.int p, .int h, .ref t])
  po : OrdsTup H t os
  N : NetAt C H x p h os t F
theorem StepAt.keep {C : Addr} {H H' : Hp} {d ap x t : Addr} {p h : Nat} {os : List Od} {F : List Addr} (S : StepAt C H d ap x t p h os F) (s : Same H H') : StepAt C H' d ap x t p h os F :=
  ⟨S.D.but s, s _ _ S.pa, S.po.keep (tk_of s), S.N.same s⟩
theorem StepAt.but {C : Addr} {H H' : Hp} {d ap x t : Addr} {p h : Nat} {os : List Od} {F : List Addr} (S : StepAt C H d ap x t p h os F) (s : But d H H') (D' : DAt H' d) (nF : d ∉ F) : StepAt C H' d ap x t p h os F :=
  ⟨D', s.tk S.D _ _ S.pa, S.po.keep (s.tk S.D), S.N.but s (s.tk S.D) nF⟩
theorem StepAt.lst {C : Addr} {H : Hp} {d ap x t u : Addr} {p h : Nat} {os : List Od} {F : List Addr} {xs : List V} {o : HO} (S : StepAt C H d ap x t p h os F) (hu : H u = some (.lst xs)) (nd : d ≠ u) (nF : u ∉ F) : StepAt C (upd H u o) d ap x t p h os F := by
  have tk : TupKeep H (upd H u o) := TupKeep.lst hu
  exact ⟨S.D.updN nd, tk _ _ S.pa, S.po.keep tk, S.N.but .upd tk nF⟩
theorem StepAt.parts {C : Addr} {H : Hp} {d ap x t : Addr} {p h : Nat} {os : List Od} {F : List Addr} (S : StepAt C H d ap x t p h os F) : PartsAt H ap p h os := ⟨t, S.pa, S.po⟩
theorem ordsEqv {H : Hp} {t : Addr} {os : List Od} (h : OrdsTup H t os) (l : os.length ≤ 20) : Eqv 2 H (.ref t) (.ref t) := by
  obtain ⟨ts, ht, hP⟩ := h
  refine .inr (.inl ⟨t, t, ts, ts, rfl, rfl, ht, ht, by rw [hP.length]; omega, ?_⟩)
  clear l ht
  induction hP with
  | nil => exact .nil
  | cons r _ ih =>
    refine .cons ?_ ih
    obtain ⟨u, rfl, hu⟩ := r
    exact .inr (.inl ⟨u, u, _, _, rfl, rfl, hu, hu, by show 5 ≤ 1000; decide, .cons Eqv.int (.cons Eqv.int (.cons Eqv.int (.cons Eqv.int (.cons Eqv.int .nil))))⟩)
theorem nintsEqv {H : Hp} {a b : Addr} {l : List Nat} (ha : H a = some (.lst (nints l))) (hb : H b = some (.lst (nints l))) (hl : l.length ≤ 1000) : Eqv 1 H (.ref a) (.ref b) := by
  refine .inr (.inr ⟨a, b, _, _, rfl, rfl, ha, hb, by unfold nints; rw [List.length_map]; exact hl, ?_⟩)
  unfold nints
  clear ha hb hl
  induction l with
  | nil => exact .nil
  | cons n l ih => exact .cons ⟨rfl, .inr (.inr (.inl ⟨_, rfl⟩))⟩ ih
theorem stopsEqv {H : Hp} {a b : Addr} {xs ys : List V} {l : List (Nat × Nat)} (ha : H a = some (.lst xs)) (hb : H b = some (.lst ys)) (hx : Paired (StopAt H) xs l) (hy : Paired (StopAt H) ys l) (hl : l.length ≤ 1000) : Eqv 2 H (.ref a) (.ref b) := by
  refine .inr (.inr ⟨a, b, _, _, rfl, rfl, ha, hb, by rw [hx.length]; exact hl, ?_⟩)
  clear ha hb hl
  induction hx generalizing ys with
  | nil => cases hy; exact .nil
  | cons r _ ih =>
    cases hy with
    | cons r2 t2 =>
      refine .cons ?_ (ih t2)
      obtain ⟨u, rfl, hu⟩ := r
      obtain ⟨u2, rfl, hu2⟩ := r2
      exact .inr (.inl ⟨u, u2, _, _, rfl, rfl, hu, hu2, by show 2 ≤ 1000; decide, .cons (Eqv.int) (.cons Eqv.int .nil)⟩)
theorem optV_flat1 (o : Option Nat) : Flat1 (optV o) := by
  cases o with
  | none => exact .inl rfl
  | some k => exact .inr (.inr (.inl ⟨_, rfl⟩))
theorem Paired.last {α β : Type} {F : α → β → Prop} {xs : List α} {l : List β} {s : β} (h : Paired F xs (l ++ [s])) : ∃ ys v, xs = ys ++ [v] ∧ Paired F ys l ∧ F v s := by
  induction l generalizing xs with
  | nil =>
    cases h with
    | cons r t =>
      cases t
      exact ⟨[], _, rfl, .nil, r⟩
  | cons b l ih =>
    cases h with
    | cons r t =>
      obtain ⟨ys, v, rfl, h1, h2⟩ := ih t
      exact ⟨_ :: ys, v, rfl, .cons r h1, h2⟩
theorem Paired.take {α β : Type} {F : α → β → Prop} {xs : List α} {l : List β} (h : Paired F xs l) : ∀ n, Paired F (xs.take n) (l.take n) := by
  induction h with
  | nil =>
    intro n
    rw [List.take_nil, List.take_nil]
    exact .nil
  | cons r _ ih =>
    intro n
    cases n with
    | zero => exact .nil
    | succ n => exact .cons r (ih n)
theorem nints_dp {K : PySem.W.Frag} {H : Hp} {a : Addr} {l : List Nat} (h : H a = some (.lst (nints l))) : Dp K H (.ref a) (.list ((l.map fun (n : Nat) => (n : Int)).map PyData.int)) := by
  refine .lst (SqL.of h) ?_
  clear h
  unfold nints
  induction l with
  | nil => exact .nil
  | cons n l ih => exact .cons (.int _) ih
theorem nints_eqv (l : List Int) : PyData.eqv (.list (l.map PyData.int)) (.list (l.map PyData.int)) = true :=
  PySem.SeqAt.eqv_refl _ (PySem.SeqAt.canLay_of_shaped (PySem.W.ke_shaped_ints l))
/-! ### loops: plain mathematics -/
theorem plc_shf {p k : Nat} (s : Nat × Nat) : plc p (shf (p * k) s) = plc p s := by
  unfold plc shf
  rw [Nat.add_mul_mod_self_left]
theorem plc_plc {p : Nat} (s : Nat × Nat) : plc p (plc p s) = plc p s := by
  unfold plc
  rw [Nat.mod_mod]
theorem shf_plc {p : Nat} (s : Nat × Nat) : s = shf (p * (s.2 / p)) (plc p s) := by
  obtain ⟨a, d⟩ := s
  show (a, d) = (a, d % p + p * (d / p))
  rw [Nat.add_comm, Nat.div_add_mod]
/-- a letter's place behind i hops -/
def pst (p : Nat) (os : List Od) (i : Nat) (q : Nat × Nat) : Option (Nat × Nat) := (stp p os i q).map (plc p)
theorem pst_shf {p i k : Nat} {os : List Od} (s : Nat × Nat) : pst p os i (shf (p * k) s) = pst p os i s := by
  unfold pst
  rw [stp_shf, Option.map_map]
  congr 1
  funext t
  exact plc_shf t
theorem pst_plc {p i : Nat} {os : List Od} (s : Nat × Nat) : pst p os i (plc p s) = pst p os i s := by
  conv => rhs; rw [shf_plc (p := p) s]
  rw [pst_shf]
theorem pst_add {p i j : Nat} {os : List Od} (s : Nat × Nat) : pst p os (i + j) s = (pst p os i s).bind (pst p os j) := by
  unfold pst
  rw [stp_add]
  cases stp p os i s with
  | none => rfl
  | some c => exact (pst_plc c).symm
theorem pst_zero {p : Nat} {os : List Od} (s : Nat × Nat) : pst p os 0 s = some (plc p s) := rfl
/-- l is a loop: the places that f goes through, again and again -/
structure CycF (p : Nat) (os : List Od) (l : List (Nat × Nat)) (f : Nat → Nat × Nat) (n : Nat) : Prop where
  n0 : 0 < n
  eq : l = (List.range n).map f
  nd : l.Nodup
  nx : ∀ i, pst p os 1 (f i) = some (f (i + 1))
  per : ∀ i, f (i + n) = f i
def Cyc (p : Nat) (os : List Od) (l : List (Nat × Nat)) : Prop := ∃ f n, CycF p os l f n
section
variable {p : Nat} {os : List Od} {l l' : List (Nat × Nat)} {f g : Nat → Nat × Nat} {n m : Nat}
theorem CycF.len (c : CycF p os l f n) : l.length = n := by rw [c.eq, List.length_map, List.length_range]
theorem CycF.get (c : CycF p os l f n) {i : Nat} (h : i < n) : l[i]? = some (f i) := by rw [c.eq, List.getElem?_map, List.getElem?_range h]; rfl
theorem CycF.perk (c : CycF p os l f n) (i : Nat) : ∀ k, f (i + n * k) = f i
  | 0 => rfl
  | k + 1 => by
    rw [Nat.mul_succ, ← Nat.add_assoc, c.per]
    exact c.perk i k
theorem CycF.mod (c : CycF p os l f n) (i : Nat) : f (i % n) = f i := by
  have h := c.perk (i % n) (i / n)
  rw [Nat.mod_add_div] at h
  exact h.symm
theorem CycF.mem (c : CycF p os l f n) {x : Nat × Nat} : x ∈ l ↔ ∃ i, x = f i := by
  rw [c.eq, List.mem_map]
  constructor
  · rintro ⟨i, _, rfl⟩
    exact ⟨i, rfl⟩
  · rintro ⟨i, rfl⟩
    exact ⟨i % n, List.mem_range.mpr (Nat.mod_lt _ c.n0), c.mod i⟩
theorem CycF.inj (c : CycF p os l f n) {i j : Nat} (hi : i < n) (hj : j < n) (e : f i = f j) : i = j := by
  have a := c.get hi
  have b := c.get hj
  rw [← e] at b
  exact (List.getElem?_inj (by rw [c.len]; exact hi) c.nd).mp (a.trans b.symm)
theorem CycF.place (c : CycF p os l f n) (i : Nat) : plc p (f i) = f i := by
  have h := c.nx (i + (n - 1))
  have n0 := c.n0
  rw [show i + (n - 1) + 1 = i + n by omega, c.per] at h
  unfold pst at h
  obtain ⟨t, _, e⟩ := Option.map_eq_some_iff.mp h
  rw [← e]
  exact plc_plc t
theorem CycF.steps (c : CycF p os l f n) (i : Nat) : ∀ k, pst p os k (f i) = some (f (i + k))
  | 0 => by rw [pst_zero, c.place]; rfl
  | k + 1 => by
    rw [pst_add, c.steps i k]
    exact c.nx (i + k)
/-- the rest of both, from a shared place -/
theorem CycF.along (c : CycF p os l f n) (d : CycF p os l' g m) {i j : Nat} (e : f i = g j) (k : Nat) : f (i + k) = g (j + k) := by
  have a := c.steps i k
  rw [e, d.steps j k] at a
  exact (Option.some.inj a).symm
theorem CycF.le_of (c : CycF p os l f n) (d : CycF p os l' g m) {i j : Nat} (e : f i = g j) : n ≤ m := by
  refine Nat.le_of_not_lt fun lt => ?_
  have h := c.along d e m
  rw [d.per, ← e, ← c.mod (i + m), ← c.mod i] at h
  have n0 := c.n0
  have m0 := d.n0
  have := c.inj (Nat.mod_lt _ n0) (Nat.mod_lt _ n0) h
  have e2 : (i + m) % n = (i % n + m) % n := by rw [Nat.mod_add_mod]
  rw [e2] at this
  have hi := Nat.mod_lt i n0
  by_cases z : i % n + m < n
  · rw [Nat.mod_eq_of_lt z] at this
    omega
  · rw [Nat.mod_eq_sub_mod (by omega), Nat.mod_eq_of_lt (by omega)] at this
    omega
theorem CycF.same_len (c : CycF p os l f n) (d : CycF p os l' g m) {i j : Nat} (e : f i = g j) : n = m := Nat.le_antisymm (c.le_of d e) (d.le_of c e.symm)
theorem CycF.sub (c : CycF p os l f n) (d : CycF p os l' g m) {i j : Nat} (e : f i = g j) {x : Nat × Nat} (hx : x ∈ l) : x ∈ l' := by
  obtain ⟨k, rfl⟩ := c.mem.mp hx
  have h := c.along d e (k + (n * (i + 1) - i))
  have n0 := c.n0
  have hge : i ≤ n * (i + 1) := Nat.le_trans (Nat.le_succ i) (Nat.le_mul_of_pos_left _ n0)
  rw [show i + (k + (n * (i + 1) - i)) = k + n * (i + 1) by omega, c.perk] at h
  rw [h]
  exact d.mem.mpr ⟨_, rfl⟩
theorem CycF.eq_of_head (c : CycF p os l f n) (d : CycF p os l' g m) (e : f 0 = g 0) : l = l' := by
  obtain rfl := c.same_len d e
  rw [c.eq, d.eq]
  refine List.map_congr_left fun i _ => ?_
  have := c.along d e i
  rw [Nat.zero_add] at this
  exact this
theorem CycF.turn (c : CycF p os l f n) : CycF p os (l.drop 1 ++ l.take 1) (fun i => f (i + 1)) n := by
  have n0 := c.n0
  have hl : l.drop 1 ++ l.take 1 = (List.range n).map fun i => f (i + 1) := by
    obtain ⟨k, rfl⟩ : ∃ k, n = k + 1 := ⟨n - 1, by omega⟩
    have e1 : l = f 0 :: (List.range k).map fun i => f (i + 1) := by
      rw [c.eq, List.range_succ_eq_map, List.map_cons, List.map_map]
      rfl
    rw [e1, List.range_succ, List.map_append]
    show (List.range k).map _ ++ [f 0] = _
    have := c.per 0
    rw [Nat.zero_add] at this
    rw [← this]
    rfl
  refine ⟨n0, hl, ?_, fun i => c.nx (i + 1), fun i => ?_⟩
  · refine List.Perm.nodup (l := l) ?_ c.nd
    have h := List.perm_append_comm (l₁ := l.take 1) (l₂ := l.drop 1)
    rw [List.take_append_drop] at h
    exact h
  · show f (i + n + 1) = f (i + 1)
    rw [show i + n + 1 = (i + 1) + n by omega, c.per]
end
/-- stops, one before the other -/
def ltS (s t : Nat × Nat) : Bool := if s.1 = t.1 then decide (s.2 < t.2) else decide (s.1 < t.1)
theorem ltS_iff {s t : Nat × Nat} : ltS s t = true ↔ s.1 < t.1 ∨ (s.1 = t.1 ∧ s.2 < t.2) := by
  unfold ltS
  split
  · rename_i h
    rw [decide_eq_true_iff]
    omega
  · rename_i h
    rw [decide_eq_true_iff]
    omega
theorem ltS_no {s t : Nat × Nat} : ltS s t = false ↔ ¬ (s.1 < t.1 ∨ (s.1 = t.1 ∧ s.2 < t.2)) := by
  rw [← ltS_iff]
  cases ltS s t <;> simp
theorem ltS_anti {s t : Nat × Nat} (h1 : ltS s t = false) (h2 : ltS t s = false) : s = t := by
  have a := ltS_no.mp h1
  have b := ltS_no.mp h2
  exact Prod.ext (by omega) (by omega)
theorem ltS_trans {s t u : Nat × Nat} (h1 : ltS s t = true) (h2 : ltS t u = true) : ltS s u = true := by
  have a := ltS_iff.mp h1
  have b := ltS_iff.mp h2
  exact ltS_iff.mpr (by omega)
/-- the least stop -/
def minS (x : Nat × Nat) (xs : List (Nat × Nat)) : Nat × Nat := xs.foldl (fun a y => if ltS y a then y else a) x
theorem minS_spec : ∀ (xs : List (Nat × Nat)) (x : Nat × Nat), minS x xs ∈ x :: xs ∧ ∀ y ∈ x :: xs, ltS y (minS x xs) = false
  | [], x => ⟨List.mem_cons_self, fun y hy => by
      rw [List.mem_singleton.mp hy]
      exact ltS_no.mpr (by show ¬ (x.1 < x.1 ∨ (x.1 = x.1 ∧ x.2 < x.2)); omega)⟩
  | z :: r, x => by
    show minS (if ltS z x then z else x) r ∈ _ ∧ ∀ y ∈ _, ltS y (minS (if ltS z x then z else x) r) = false
    obtain ⟨h1, h2⟩ := minS_spec r (if ltS z x then z else x)
    generalize hw : (if ltS z x then z else x) = w at h1 h2
    have hwm : w = z ∨ w = x := by
      rw [← hw]
      split
      · exact .inl rfl
      · exact .inr rfl
    have hwl : ltS z w = false ∧ ltS x w = false := by
      by_cases c : ltS z x = true
      · rw [if_pos c] at hw
        subst hw
        have := ltS_iff.mp c
        exact ⟨ltS_no.mpr (by omega), ltS_no.mpr (by omega)⟩
      · rw [if_neg c] at hw
        subst hw
        exact ⟨Bool.eq_false_iff.mpr c, ltS_no.mpr (by omega)⟩
    refine ⟨?_, fun y hy => ?_⟩
    · rcases List.mem_cons.mp h1 with e | e
      · rw [e]
        rcases hwm with e | e <;> rw [e] <;> simp
      · exact List.mem_cons_of_mem _ (List.mem_cons_of_mem _ e)
    · have key : ∀ u, ltS u w = false → ltS u (minS w r) = false := fun u hu => by
        have a := ltS_no.mp hu
        have b := ltS_no.mp (h2 w List.mem_cons_self)
        exact ltS_no.mpr (by omega)
      rcases List.mem_cons.mp hy with e | e
      · rw [e]
        exact key x hwl.2
      · rcases List.mem_cons.mp e with e | e
        · rw [e]
          exact key z hwl.1
        · exact h2 y (List.mem_cons_of_mem _ e)
/-- a list that begins with its least stop -/
def hm : List (Nat × Nat) → Bool
  | [] => false
  | x :: xs => decide (x = minS x xs)
theorem hm_iff {x : Nat × Nat} {xs : List (Nat × Nat)} : hm (x :: xs) = true ↔ ∀ y ∈ x :: xs, ltS y x = false := by
  unfold hm
  rw [decide_eq_true_iff]
  obtain ⟨h1, h2⟩ := minS_spec xs x
  constructor
  · intro e
    rw [← e] at h2
    exact h2
  · intro h
    exact ltS_anti (h2 x List.mem_cons_self) (h _ h1)
section
variable {p : Nat} {os : List Od} {l l' : List (Nat × Nat)}
theorem Cyc.cons (c : Cyc p os l) : ∃ x xs, l = x :: xs := by
  obtain ⟨f, n, c⟩ := c
  cases l with
  | nil =>
    have a := c.len
    have b := c.n0
    simp at a
    omega
  | cons x xs => exact ⟨x, xs, rfl⟩
/-- loops that share a stop and begin with their least are the same -/
theorem Cyc.uniq (c : Cyc p os l) (d : Cyc p os l') (h : hm l = true) (h' : hm l' = true) {x : Nat × Nat} (hx : x ∈ l) (hx' : x ∈ l') : l = l' := by
  obtain ⟨f, n, c⟩ := c
  obtain ⟨g, m, d⟩ := d
  obtain ⟨i, rfl⟩ := c.mem.mp hx
  obtain ⟨j, e⟩ := d.mem.mp hx'
  have hf : l[0]? = some (f 0) := c.get c.n0
  have hg : l'[0]? = some (g 0) := d.get d.n0
  have m1 : f 0 ∈ l' := c.sub d e (List.mem_of_getElem? hf)
  have m2 : g 0 ∈ l := d.sub c e.symm (List.mem_of_getElem? hg)
  refine c.eq_of_head d ?_
  cases l with
  | nil => cases hf
  | cons x xs =>
    cases l' with
    | nil => cases hg
    | cons y ys =>
      obtain rfl : x = f 0 := Option.some.inj hf
      obtain rfl : y = g 0 := Option.some.inj hg
      exact ltS_anti (hm_iff.mp h' _ m1) (hm_iff.mp h _ m2)
theorem Cyc.turn (c : Cyc p os l) : Cyc p os (l.drop 1 ++ l.take 1) := by
  obtain ⟨f, n, c⟩ := c
  exact ⟨_, _, c.turn⟩
theorem turn_mem {x : Nat × Nat} : x ∈ l.drop 1 ++ l.take 1 ↔ x ∈ l := by
  have h := List.perm_append_comm (l₁ := l.take 1) (l₂ := l.drop 1)
  rw [List.take_append_drop] at h
  exact h.mem_iff.symm
end
/-! ### the loops of a net: plain mathematics -/
theorem pst_house {p h : Nat} {os : List Od} {st : Nat × Nat} (ok : NetOk p h os) (hh : st.1 < h) : ∀ (i : Nat) {s : Nat × Nat}, stp p os i st = some s → s.1 < h
  | 0, s, e => by
    cases e
    exact hh
  | i + 1, s, e => by
    obtain ⟨c, hc, e⟩ := Option.bind_eq_some_iff.mp (show (stp p os i st).bind (hop p os) = some s from e)
    exact hop_house ok e
theorem pst_get {p i : Nat} {os : List Od} {st s : Nat × Nat} (e : stp p os i st = some s) : pst p os i st = some (plc p s) := by
  unfold pst
  rw [e]
  rfl
theorem pst_next {p i : Nat} {os : List Od} {st s t : Nat × Nat} (e : stp p os i st = some s) (e2 : stp p os (i + 1) st = some t) : pst p os 1 (plc p s) = some (plc p t) := by
  have h := pst_add (p := p) (os := os) (i := i) (j := 1) st
  rw [pst_get e, pst_get e2] at h
  exact h.symm
/-- what a letter that chases goes through again and again, from where it comes back to -/
def rawOf (p h : Nat) (os : List Od) (q : Nat × Nat) : Option (List (Nat × Nat)) := match (folR p h os q).2 with
  | none => none
  | some b => some (((folR p h os q).1.dropLast.drop b).map (plc p))
/-- the loop of a letter that comes back to its first stop -/
def lpOf (p h : Nat) (os : List Od) (q : Nat × Nat) : Option (List (Nat × Nat)) := match (folR p h os q).2 with
  | some 0 => some ((folR p h os q).1.dropLast.map (plc p))
  | _ => none
theorem raw_cycF {p h : Nat} {os : List Od} {q : Nat × Nat} {l : List (Nat × Nat)} (ok : NetOk p h os) (hh : q.1 < h) (e : rawOf p h os q = some l) : Cyc p os l ∧ (∀ x ∈ l, x.1 < h) ∧
    ∃ m s b, folR p h os q = (m ++ [s], some b) ∧ l = (m.drop b).map (plc p) ∧ plc p s ∈ l ∧ b < m.length ∧ ∀ x xs, l = x :: xs → ∃ t, m[b]? = some t ∧ x = plc p t := by
  rcases folR_cases ok hh with ⟨l', e', _⟩ | ⟨m, s, b, t, k, e', hl, hb, hs, hk, nd⟩
  · unfold rawOf at e
    rw [e'] at e
    cases e
  · unfold rawOf at e
    rw [e'] at e
    simp only [List.dropLast_concat] at e
    obtain rfl := Option.some.inj e
    have hbl : b < m.length := (List.getElem?_eq_some_iff.mp hb).1
    have hget : ∀ i, i < m.length → ∃ c, m[i]? = some c ∧ stp p os i q = some c := fun i hi => by
      have a := hl i (Nat.le_of_lt hi)
      rw [List.getElem?_append_left hi] at a
      exact ⟨m[i], List.getElem?_eq_getElem hi, a.symm.trans (List.getElem?_eq_getElem hi)⟩
    have hgs : stp p os m.length q = some s := by
      have a := hl m.length (Nat.le_refl _)
      rw [List.getElem?_append_right (Nat.le_refl _), Nat.sub_self] at a
      exact a.symm
    have hst : plc p s = plc p t := by rw [hs, plc_shf]
    have n0 : 0 < m.length - b := by omega
    let f : Nat → Nat × Nat := fun i => plc p (m.getD (b + i % (m.length - b)) (0, 0))
    have hf : ∀ i, i < m.length - b → ∃ c, m[b + i]? = some c ∧ stp p os (b + i) q = some c ∧ f i = plc p c := fun i hi => by
      obtain ⟨c, h1, h2⟩ := hget (b + i) (by omega)
      refine ⟨c, h1, h2, ?_⟩
      show plc p (m.getD (b + i % (m.length - b)) (0, 0)) = _
      rw [Nat.mod_eq_of_lt hi, List.getD_eq_getElem?_getD, h1]
      rfl
    have per : ∀ i, f (i + (m.length - b)) = f i := fun i => by
      show plc p (m.getD (b + (i + (m.length - b)) % (m.length - b)) (0, 0)) = _
      rw [Nat.add_mod_right]
    have modf : ∀ i, f (i % (m.length - b)) = f i := fun i => by
      show plc p (m.getD (b + (i % (m.length - b)) % (m.length - b)) (0, 0)) = _
      rw [Nat.mod_mod]
    have eql : (m.drop b).map (plc p) = (List.range (m.length - b)).map f := by
      refine List.ext_getElem? fun i => ?_
      rw [List.getElem?_map, List.getElem?_drop, List.getElem?_map]
      by_cases hi : i < m.length - b
      · obtain ⟨c, h1, _, h3⟩ := hf i hi
        rw [h1, List.getElem?_range hi]
        show some (plc p c) = some (f i)
        rw [h3]
      · rw [List.getElem?_eq_none (by omega), List.getElem?_eq_none (by rw [List.length_range]; omega)]
        rfl
    have nx : ∀ i, pst p os 1 (f i) = some (f (i + 1)) := fun i => by
      have hi := Nat.mod_lt i n0
      obtain ⟨c, h1, h2, h3⟩ := hf _ hi
      rw [← modf i, h3]
      by_cases z : i % (m.length - b) + 1 < m.length - b
      · obtain ⟨c', _, g2, g3⟩ := hf _ z
        have e1 : f (i + 1) = f (i % (m.length - b) + 1) := by rw [← modf (i + 1), ← modf (i % (m.length - b) + 1), Nat.mod_add_mod]
        rw [e1, g3]
        exact pst_next h2 g2
      · have e1 : f (i + 1) = f 0 := by
          rw [← modf (i + 1), ← Nat.mod_add_mod, show i % (m.length - b) + 1 = m.length - b by omega, Nat.mod_self]
        obtain ⟨c', k1, _, k3⟩ := hf 0 n0
        rw [Nat.add_zero] at k1
        obtain rfl : t = c' := Option.some.inj (hb.symm.trans k1)
        rw [e1, k3, ← hst]
        refine pst_next h2 ?_
        rw [show b + i % (m.length - b) + 1 = m.length by omega]
        exact hgs
    have nd2 : ((m.drop b).map (plc p)).Nodup := by
      rw [List.map_drop]
      exact nd.sublist (List.drop_sublist _ _)
    refine ⟨⟨f, _, n0, eql, nd2, nx, per⟩, fun x hx => ?_, m, s, b, e', rfl, ?_, hbl, fun x xs ex => ?_⟩
    · obtain ⟨c, hc, rfl⟩ := List.mem_map.mp hx
      obtain ⟨i, hi⟩ := List.getElem?_of_mem (List.mem_of_mem_drop hc)
      obtain ⟨c', k1, k2⟩ := hget i (List.getElem?_eq_some_iff.mp hi).1
      obtain rfl : c' = c := Option.some.inj (k1.symm.trans hi)
      exact (show c'.1 < h from pst_house ok hh i k2)
    · rw [hst]
      refine List.mem_map.mpr ⟨t, List.mem_of_getElem? (i := 0) ?_, rfl⟩
      rw [List.getElem?_drop]
      exact hb
    · have h0 : ((m.drop b).map (plc p))[0]? = some x := by rw [ex]; rfl
      rw [List.getElem?_map, List.getElem?_drop, Nat.add_zero, hb] at h0
      exact ⟨t, hb, (Option.some.inj h0).symm⟩
theorem lp_raw {p h : Nat} {os : List Od} {q : Nat × Nat} {l : List (Nat × Nat)} (e : lpOf p h os q = some l) : rawOf p h os q = some l := by
  unfold lpOf at e
  unfold rawOf
  split at e
  · rename_i h2
    rw [h2]
    exact e
  · cases e
theorem lp_cyc {p h : Nat} {os : List Od} {q : Nat × Nat} {l : List (Nat × Nat)} (ok : NetOk p h os) (hh : q.1 < h) (e : lpOf p h os q = some l) : Cyc p os l ∧ (∀ x ∈ l, x.1 < h) ∧ ∃ xs, l = plc p q :: xs := by
  obtain ⟨c, hx, m, s, b, e1, e2, _, hb, hd⟩ := raw_cycF ok hh (lp_raw e)
  refine ⟨c, hx, ?_⟩
  obtain ⟨x, xs, rfl⟩ := c.cons
  refine ⟨xs, ?_⟩
  obtain ⟨t, ht, rfl⟩ := hd x xs rfl
  unfold lpOf at e
  rw [e1] at e
  have b0 : b = 0 := by
    cases b with
    | zero => rfl
    | succ n => cases e
  subst b0
  have : (way p os (h * p + 1) q)[0]? = some q := by
    rw [show way p os (h * p + 1) q = rest p os (h * p + 1) (some q) from rfl, rest_succ]
    rfl
  rcases folR_cases ok hh with ⟨l', e', _⟩ | ⟨m', s', b', t', k, e', hl, _⟩
  · rw [e1] at e'
    cases e'
  · rw [e1] at e'
    have e5 := (Prod.mk.inj e').1
    have h0 := hl 0 (Nat.zero_le _)
    rw [← e5, List.getElem?_append_left hb, ht] at h0
    obtain rfl : t = q := Option.some.inj h0
    rfl
/-- a letter that is posted on a loop comes back to its first stop -/
theorem cyc_lp {p h n : Nat} {os : List Od} {l : List (Nat × Nat)} {f : Nat → Nat × Nat} (ok : NetOk p h os) (c : CycF p os l f n) (hq : (f 0).1 < h) : lpOf p h os (f 0) = some l ∧ (folR p h os (f 0)).2 = some 0 := by
  have st : ∀ i, ∃ s, stp p os i (f 0) = some s ∧ plc p s = f i := fun i => by
    have h1 := c.steps 0 i
    rw [Nat.zero_add] at h1
    exact Option.map_eq_some_iff.mp h1
  rcases folR_cases ok hq with ⟨l', _, _, hl, _⟩ | ⟨m, s, b, t, k, e', hl, hb, hs, hk, nd⟩
  · obtain ⟨s, h1, _⟩ := st l'.length
    rw [← hl, List.getElem?_eq_none (Nat.le_refl _)] at h1
    cases h1
  · have hbl : b < m.length := (List.getElem?_eq_some_iff.mp hb).1
    have n0 := c.n0
    have hmf : m.map (plc p) = (List.range m.length).map f := by
      refine List.ext_getElem? fun i => ?_
      rw [List.getElem?_map, List.getElem?_map]
      by_cases hi : i < m.length
      · have a := hl i (Nat.le_of_lt hi)
        rw [List.getElem?_append_left hi] at a
        obtain ⟨s', h1, h2⟩ := st i
        rw [a, h1, List.getElem?_range hi]
        show some (plc p s') = some (f i)
        rw [h2]
      · rw [List.getElem?_eq_none (by omega), List.getElem?_eq_none (by rw [List.length_range]; omega)]
        rfl
    have fs : f m.length = f b := by
      have a := hl m.length (Nat.le_refl _)
      rw [List.getElem?_append_right (Nat.le_refl _), Nat.sub_self] at a
      obtain ⟨s', h1, h2⟩ := st m.length
      have e1 : s = s' := Option.some.inj (a.trans h1)
      have a2 := hl b (Nat.le_of_lt hbl)
      rw [List.getElem?_append_left hbl, hb] at a2
      obtain ⟨t', h3, h4⟩ := st b
      have e2 : t = t' := Option.some.inj (a2.trans h3)
      rw [← h2, ← h4, ← e1, ← e2, hs, plc_shf]
    have hle : m.length ≤ n := by
      refine Nat.le_of_not_lt fun lt => ?_
      have a1 : (m.map (plc p))[n]? = some (f n) := by rw [hmf, List.getElem?_map, List.getElem?_range lt]; rfl
      have a2 : (m.map (plc p))[0]? = some (f 0) := by rw [hmf, List.getElem?_map, List.getElem?_range (by omega)]; rfl
      have p0 := c.per 0
      rw [Nat.zero_add] at p0
      rw [p0] at a1
      have := (List.getElem?_inj (by rw [List.length_map]; exact lt) nd).mp (a1.trans a2.symm)
      omega
    have hln : m.length = n := by
      refine Nat.le_antisymm hle (Nat.le_of_not_lt fun lt => ?_)
      have := c.inj lt (by omega) fs
      omega
    have b0 : b = 0 := by
      have p0 := c.per 0
      rw [Nat.zero_add, ← hln] at p0
      rw [p0] at fs
      exact (c.inj n0 (by omega) fs).symm
    subst b0
    unfold lpOf
    rw [e']
    refine ⟨?_, rfl⟩
    show some ((m ++ [s]).dropLast.map (plc p)) = _
    rw [List.dropLast_concat, hmf, hln, ← c.eq]
/-- the loop's turn that begins with its least stop -/
def canon (p h : Nat) (os : List Od) (l : List (Nat × Nat)) : List (Nat × Nat) := (lpOf p h os (minS (l.headD (0, 0)) l.tail)).getD []
theorem CycF.turns {p n : Nat} {os : List Od} {l : List (Nat × Nat)} {f : Nat → Nat × Nat} (c : CycF p os l f n) : ∀ i, ∃ l', CycF p os l' (fun j => f (i + j)) n ∧ ∀ x, x ∈ l' ↔ x ∈ l
  | 0 => ⟨l, by simpa using c, fun _ => Iff.rfl⟩
  | i + 1 => by
    obtain ⟨l', c', h'⟩ := c.turns i
    refine ⟨_, ?_, fun x => turn_mem.trans (h' x)⟩
    have := c'.turn
    have e : (fun j => f (i + (j + 1))) = fun j => f (i + 1 + j) := funext fun j => by rw [show i + (j + 1) = i + 1 + j by omega]
    rw [e] at this
    exact this
theorem canon_spec {p h : Nat} {os : List Od} {l : List (Nat × Nat)} (ok : NetOk p h os) (c : Cyc p os l) (hl : ∀ x ∈ l, x.1 < h) :
    Cyc p os (canon p h os l) ∧ hm (canon p h os l) = true ∧ (∀ x, x ∈ canon p h os l ↔ x ∈ l) ∧ ∃ q xs, canon p h os l = q :: xs ∧ lpOf p h os q = some (canon p h os l) ∧ plc p q = q ∧ q.1 < h := by
  obtain ⟨x, xs, rfl⟩ := c.cons
  obtain ⟨f, n, c⟩ := c
  obtain ⟨h1, h2⟩ := minS_spec xs x
  obtain ⟨i, ei⟩ := c.mem.mp h1
  obtain ⟨l', c', hm'⟩ := c.turns i
  have hq : (f (i + 0)).1 < h := by
    rw [Nat.add_zero, ← ei]
    exact hl _ h1
  obtain ⟨g1, _⟩ := cyc_lp ok c' hq
  have ec : canon p h os (x :: xs) = l' := by
    show (lpOf p h os (minS x xs)).getD [] = l'
    rw [ei]
    show (lpOf p h os (f i)).getD [] = l'
    rw [show f i = f (i + 0) from rfl, g1]
    rfl
  rw [ec]
  have h0 : l'[0]? = some (f (i + 0)) := c'.get c'.n0
  obtain ⟨y, ys, rfl⟩ := Cyc.cons ⟨_, _, c'⟩
  obtain rfl : y = f (i + 0) := Option.some.inj h0
  refine ⟨⟨_, _, c'⟩, hm_iff.mpr fun z hz => ?_, hm', _, _, rfl, g1, c.place _, hq⟩
  show ltS z (f i) = false
  rw [← ei]
  exact h2 z ((hm' z).mp hz)
theorem canon_eq {p h : Nat} {os : List Od} {l l' : List (Nat × Nat)} (ok : NetOk p h os) (c : Cyc p os l) (hl : ∀ x ∈ l, x.1 < h) (c' : Cyc p os l') (hm' : hm l' = true) {x : Nat × Nat} (hx : x ∈ l) (hx' : x ∈ l') : canon p h os l = l' := by
  obtain ⟨a1, a2, a3, _⟩ := canon_spec ok c hl
  exact a1.uniq c' a2 hm' ((a3 x).mpr hx) hx'
/-- all letters of a period -/
def lets (p h : Nat) : List (Nat × Nat) := (List.range h).flatMap fun a => (List.range p).map fun d => (a, d)
theorem mem_lets {p h : Nat} {q : Nat × Nat} : q ∈ lets p h ↔ q.1 < h ∧ q.2 < p := by
  unfold lets
  rw [List.mem_flatMap]
  constructor
  · rintro ⟨a, ha, hq⟩
    obtain ⟨d, hd, rfl⟩ := List.mem_map.mp hq
    exact ⟨List.mem_range.mp ha, List.mem_range.mp hd⟩
  · rintro ⟨h1, h2⟩
    exact ⟨q.1, List.mem_range.mpr h1, List.mem_map.mpr ⟨q.2, List.mem_range.mpr h2, rfl⟩⟩
theorem lets_pw {p h : Nat} : (lets p h).Pairwise fun a b => ltS a b = true := by
  unfold lets
  rw [List.pairwise_flatMap]
  refine ⟨fun a _ => ?_, ?_⟩
  · rw [List.pairwise_map]
    exact List.pairwise_lt_range.imp (R := fun x y => x < y) (S := fun d e => ltS (a, d) (a, e) = true) fun {d e} q => ltS_iff.mpr (.inr ⟨rfl, q⟩)
  · refine List.pairwise_lt_range.imp fun {a b} q => ?_
    intro x hx y hy
    obtain ⟨_, _, rfl⟩ := List.mem_map.mp hx
    obtain ⟨_, _, rfl⟩ := List.mem_map.mp hy
    exact ltS_iff.mpr (.inl q)
theorem lets_plc {p h : Nat} {q : Nat × Nat} (hq : q ∈ lets p h) : plc p q = q := by
  obtain ⟨_, h2⟩ := mem_lets.mp hq
  unfold plc
  rw [Nat.mod_eq_of_lt h2]
theorem lets_len {p h : Nat} : (lets p h).length = h * p := by
  unfold lets
  rw [List.length_flatMap]
  simp only [List.length_map, List.length_range]
  induction h with
  | zero => simp
  | succ h ih => rw [List.range_succ, List.map_append, List.sum_append, ih, Nat.succ_mul]; simp
/-- the loop that a letter's least stop begins -/
def goodL (p h : Nat) (os : List Od) (q : Nat × Nat) : Option (List (Nat × Nat)) := match lpOf p h os q with
  | some l => if hm l = true then some l else none
  | none => none
def loopsN (p h : Nat) (os : List Od) : List (List (Nat × Nat)) := (lets p h).filterMap (goodL p h os)
theorem goodL_some {p h : Nat} {os : List Od} {q : Nat × Nat} {l : List (Nat × Nat)} (e : goodL p h os q = some l) : lpOf p h os q = some l ∧ hm l = true := by
  unfold goodL at e
  split at e
  · rename_i l' e'
    split at e
    · rename_i hm'
      obtain rfl := Option.some.inj e
      exact ⟨e', hm'⟩
    · cases e
  · cases e
theorem goodL_of {p h : Nat} {os : List Od} {q : Nat × Nat} {l : List (Nat × Nat)} (e : lpOf p h os q = some l) (hm' : hm l = true) : goodL p h os q = some l := by
  unfold goodL
  rw [e]
  exact if_pos hm'
theorem mem_loopsN {p h : Nat} {os : List Od} (ok : NetOk p h os) {l : List (Nat × Nat)} : l ∈ loopsN p h os ↔ Cyc p os l ∧ hm l = true ∧ ∀ x ∈ l, x.1 < h := by
  unfold loopsN
  rw [List.mem_filterMap]
  constructor
  · rintro ⟨q, hq, e⟩
    obtain ⟨e1, e2⟩ := goodL_some e
    obtain ⟨c, hx, _⟩ := lp_cyc ok (mem_lets.mp hq).1 e1
    exact ⟨c, e2, hx⟩
  · rintro ⟨⟨f, n, c⟩, hm', hx⟩
    have h0 : f 0 ∈ l := c.mem.mpr ⟨0, rfl⟩
    have hp : (f 0).2 < p := by
      have := c.place 0
      have e : (f 0).2 % p = (f 0).2 := congrArg Prod.snd this
      rw [← e]
      exact Nat.mod_lt _ ok.p1
    exact ⟨f 0, mem_lets.mpr ⟨hx _ h0, hp⟩, goodL_of (cyc_lp ok c (hx _ h0)).1 hm'⟩
theorem loopsN_pw {p h : Nat} {os : List Od} (ok : NetOk p h os) : (loopsN p h os).Pairwise fun a b => ltS (a.headD (0, 0)) (b.headD (0, 0)) = true := by
  unfold loopsN
  rw [List.pairwise_filterMap]
  refine List.Pairwise.imp_of_mem ?_ (lets_pw (p := p) (h := h))
  intro a b ha hb q l el l' el'
  obtain ⟨_, _, xs, rfl⟩ := lp_cyc ok (mem_lets.mp ha).1 (goodL_some el).1
  obtain ⟨_, _, ys, rfl⟩ := lp_cyc ok (mem_lets.mp hb).1 (goodL_some el').1
  show ltS (plc p a) (plc p b) = true
  rw [lets_plc ha, lets_plc hb]
  exact q
theorem loopsN_nd {p h : Nat} {os : List Od} (ok : NetOk p h os) : (loopsN p h os).Nodup := (loopsN_pw ok).imp fun {a b} q e => by
  subst e
  have := ltS_iff.mp q
  omega
/-- what the law finds, letter by letter -/
def fndF (p h : Nat) (os : List Od) (acc : List (List (Nat × Nat))) (q : Nat × Nat) : List (List (Nat × Nat)) := match rawOf p h os q with
  | none => acc
  | some l => if canon p h os l ∈ acc then acc else acc ++ [canon p h os l]
def fnd (p h : Nat) (os : List Od) (qs : List (Nat × Nat)) : List (List (Nat × Nat)) := qs.foldl (fndF p h os) []
theorem fnd_snoc {p h : Nat} {os : List Od} {qs : List (Nat × Nat)} {q : Nat × Nat} : fnd p h os (qs ++ [q]) = fndF p h os (fnd p h os qs) q := by
  unfold fnd
  rw [List.foldl_append]
  rfl
theorem fndF_mem {p h : Nat} {os : List Od} {acc : List (List (Nat × Nat))} {q : Nat × Nat} {l : List (Nat × Nat)} : l ∈ fndF p h os acc q ↔ l ∈ acc ∨ ∃ r, rawOf p h os q = some r ∧ canon p h os r = l := by
  unfold fndF
  cases e : rawOf p h os q with
  | none => simp
  | some r =>
    show l ∈ (if canon p h os r ∈ acc then acc else acc ++ [canon p h os r]) ↔ _
    split
    · rename_i hm'
      constructor
      · exact .inl
      · rintro (a | ⟨r', e', rfl⟩)
        · exact a
        · cases e'
          exact hm'
    · rw [List.mem_append, List.mem_singleton]
      constructor
      · rintro (a | a)
        · exact .inl a
        · exact .inr ⟨r, rfl, a.symm⟩
      · rintro (a | ⟨r', e', a⟩)
        · exact .inl a
        · cases e'
          exact .inr a.symm
theorem fndF_nd {p h : Nat} {os : List Od} {acc : List (List (Nat × Nat))} {q : Nat × Nat} (nd : acc.Nodup) : (fndF p h os acc q).Nodup := by
  unfold fndF
  split
  · exact nd
  · rename_i r _
    split
    · exact nd
    · rename_i hno
      rw [List.nodup_append]
      refine ⟨nd, List.nodup_cons.mpr ⟨by simp, List.nodup_nil⟩, fun a ha b hb e => ?_⟩
      rw [List.mem_singleton.mp hb] at e
      exact hno (e ▸ ha)
theorem fnd_spec {p h : Nat} {os : List Od} (qs : List (Nat × Nat)) : ∀ acc : List (List (Nat × Nat)), acc.Nodup → (qs.foldl (fndF p h os) acc).Nodup ∧ ∀ l, l ∈ qs.foldl (fndF p h os) acc ↔ l ∈ acc ∨ ∃ q ∈ qs, ∃ r, rawOf p h os q = some r ∧ canon p h os r = l := by
  induction qs with
  | nil => exact fun acc nd => ⟨nd, fun l => by simp⟩
  | cons q qs ih =>
    intro acc nd
    obtain ⟨h1, h2⟩ := ih (fndF p h os acc q) (fndF_nd nd)
    refine ⟨h1, fun l => ?_⟩
    rw [List.foldl_cons, h2, fndF_mem]
    constructor
    · rintro ((a | a) | ⟨q', hq', a⟩)
      · exact .inl a
      · exact .inr ⟨q, List.mem_cons_self, a⟩
      · exact .inr ⟨q', List.mem_cons_of_mem _ hq', a⟩
    · rintro (a | ⟨q', hq', a⟩)
      · exact .inl (.inl a)
      · rcases List.mem_cons.mp hq' with rfl | z
        · exact .inl (.inr a)
        · exact .inr ⟨q', z, a⟩
theorem fnd_perm {p h : Nat} {os : List Od} (ok : NetOk p h os) : (fnd p h os (lets p h)).Perm (loopsN p h os) := by
  obtain ⟨h1, h2⟩ := fnd_spec (p := p) (h := h) (os := os) (lets p h) [] List.nodup_nil
  refine (List.perm_ext_iff_of_nodup h1 (loopsN_nd ok)).mpr fun l => ?_
  rw [h2]
  constructor
  · rintro (a | ⟨q, hq, r, e, rfl⟩)
    · cases a
    · obtain ⟨c, hx, _⟩ := raw_cycF ok (mem_lets.mp hq).1 e
      obtain ⟨a1, a2, a3, _⟩ := canon_spec ok c hx
      exact (mem_loopsN ok).mpr ⟨a1, a2, fun x hx' => hx x ((a3 x).mp hx')⟩
  · intro hl
    obtain ⟨c, hm', hx⟩ := (mem_loopsN ok).mp hl
    obtain ⟨q, hq, e⟩ := List.mem_filterMap.mp hl
    obtain ⟨x, xs, rfl⟩ := c.cons
    exact .inr ⟨q, hq, _, lp_raw (goodL_some e).1, canon_eq ok c hx c hm' List.mem_cons_self List.mem_cons_self⟩
/-- loops that share a stop are one -/
theorem loopsN_share {p h : Nat} {os : List Od} (ok : NetOk p h os) {l l' : List (Nat × Nat)} {x : Nat × Nat} (hl : l ∈ loopsN p h os) (hl' : l' ∈ loopsN p h os) (hx : x ∈ l) (hx' : x ∈ l') : l = l' := by
  obtain ⟨c, m1, _⟩ := (mem_loopsN ok).mp hl
  obtain ⟨c', m2, _⟩ := (mem_loopsN ok).mp hl'
  exact c.uniq c' m1 m2 hx hx'
/-! ### pairs as data: their order and their least -/
section
open PySem.W (alike alikeAll dataLt minD AlikeAll)
theorem plD_alike (s t : Nat × Nat) : alike (plD s) (plD t) = true := by
  simp [plD, alike, alikeAll]
theorem plDs_alike (l : List (Nat × Nat)) : AlikeAll (l.map plD) := by
  refine ⟨fun x hx y hy => ?_, fun x hx => ?_⟩
  · obtain ⟨s, _, rfl⟩ := List.mem_map.mp hx
    obtain ⟨t, _, rfl⟩ := List.mem_map.mp hy
    exact plD_alike s t
  · obtain ⟨s, _, rfl⟩ := List.mem_map.mp hx
    intro e
    cases e
theorem int_eqv (a b : Int) : PyData.eqv (.int a) (.int b) = decide (a = b) := by
  by_cases h : a = b <;> simp [PyData.eqv, h]
theorem dataLt_pl (s t : Nat × Nat) : dataLt (plD s) (plD t) = ltS s t := by
  unfold plD ltS
  rw [PySem.W.dataLt_tuple]
  by_cases e1 : s.1 = t.1
  · rw [if_pos e1, PySem.W.dataLt_all_yes (by simp [alike]) (by rw [int_eqv, e1]; exact decide_eq_true rfl)]
    by_cases e2 : s.2 = t.2
    · rw [PySem.W.dataLt_all_yes (by simp [alike]) (by rw [int_eqv, e2]; exact decide_eq_true rfl), e2, decide_eq_false (Nat.lt_irrefl _)]
      simp [PySem.W.keyToksAll, PyProof.Rows.lexLt]
      rfl
    · rw [PySem.W.dataLt_all_no (by simp [alike]) (by rw [int_eqv]; exact decide_eq_false (by omega)), PySem.W.dataLt_int]
      by_cases c : s.2 < t.2
      · rw [decide_eq_true c, decide_eq_true (by omega)]
      · rw [decide_eq_false c, decide_eq_false (by omega)]
  · rw [if_neg e1, PySem.W.dataLt_all_no (by simp [alike]) (by rw [int_eqv]; exact decide_eq_false (by omega)), PySem.W.dataLt_int]
    by_cases c : s.1 < t.1
    · rw [decide_eq_true c, decide_eq_true (by omega)]
    · rw [decide_eq_false c, decide_eq_false (by omega)]
theorem minD_pl : ∀ (xs : List (Nat × Nat)) (x : Nat × Nat), minD (plD x) (xs.map plD) = plD (minS x xs)
  | [], x => rfl
  | y :: ys, x => by
    show minD (if dataLt (plD y) (plD x) = true then plD y else plD x) (ys.map plD) = plD (minS (if ltS y x then y else x) ys)
    rw [dataLt_pl]
    by_cases c : ltS y x = true
    · rw [if_pos c, if_pos c]
      exact minD_pl ys y
    · rw [if_neg c, if_neg c]
      exact minD_pl ys x
theorem plD_inj {s t : Nat × Nat} (e : plD s = plD t) : s = t := by
  have h := plD_eqv s t
  rw [← e] at h
  rw [PySem.SeqAt.eqv_refl _ (PySem.SeqAt.canLay_of_shaped (plD_shaped s))] at h
  exact of_decide_eq_true h.symm
/-- min of a list of stops -/
theorem min_depth (x : Nat × Nat) (xs : List (Nat × Nat)) : PyData.depthAll (plD x :: xs.map plD) ≤ 60 := by
  have := plDs_depth (x :: xs)
  rw [List.map_cons] at this
  omega
theorem min_at {H : Hp} {ws : List V} {x : Nat × Nat} {xs : List (Nat × Nat)} {i : Nat} {v : V} (hw : Paired (StopAt H) ws (x :: xs)) (hi : ws[i]? = some v) (he : (plD x :: xs.map plD)[i]? = some (minD (plD x) (xs.map plD))) : StopAt H v (minS x xs) := by
  have hil : i < (x :: xs).length := by rw [← hw.length]; exact (List.getElem?_eq_some_iff.mp hi).1
  obtain ⟨v', hv', hs⟩ := Paired.get? (i := i) hw (List.getElem?_eq_getElem hil)
  obtain rfl : v' = v := Option.some.inj (hv'.symm.trans hi)
  have e2 : ((x :: xs).map plD)[i]? = some (plD (x :: xs)[i]) := by rw [List.getElem?_map, List.getElem?_eq_getElem hil]; rfl
  rw [List.map_cons, he, minD_pl] at e2
  rw [plD_inj (Option.some.inj e2)]
  exact hs
end
/-! ### where letters are delivered: plain mathematics -/
def dst (p h : Nat) (os : List Od) (st : Nat × Nat) : Option (Nat × Nat) := destOf (folR p h os st)
theorem stp_none_add {p : Nat} {os : List Od} {i : Nat} {st : Nat × Nat} (e : stp p os i st = none) (k : Nat) : stp p os (i + k) st = none := by
  rw [stp_add, e]
  rfl
theorem stp_succ_none {p : Nat} {os : List Od} {j : Nat} {st c : Nat × Nat} (h1 : stp p os j st = some c) (h2 : hop p os c = none) : stp p os (j + 1) st = none := by
  show (stp p os j st).bind (hop p os) = none
  rw [h1]
  exact h2
theorem dst_iff {p h : Nat} {os : List Od} {st c : Nat × Nat} (ok : NetOk p h os) (hh : st.1 < h) : dst p h os st = some c ↔ ∃ j, stp p os j st = some c ∧ hop p os c = none := by
  unfold dst
  rcases folR_cases ok hh with ⟨l, e, hne, hl, _⟩ | ⟨m, s, b, t, k, e, hl, hb, hs, hk, _⟩
  · rw [e]
    show l.getLast? = some c ↔ _
    have hlen : 0 < l.length := List.length_pos_iff.mpr hne
    have hend : stp p os l.length st = none := by
      rw [← hl]
      exact List.getElem?_eq_none_iff.mpr (Nat.le_refl _)
    have hlast : l.getLast? = stp p os (l.length - 1) st := by rw [← hl, List.getLast?_eq_getElem?]
    rw [hlast]
    constructor
    · intro h1
      refine ⟨_, h1, ?_⟩
      have e2 : (stp p os (l.length - 1) st).bind (hop p os) = none := by
        have e1 : stp p os (l.length - 1 + 1) st = none := by rw [Nat.sub_add_cancel hlen]; exact hend
        exact e1
      rw [h1] at e2
      exact e2
    · rintro ⟨j, h1, h2⟩
      have e3 := stp_succ_none h1 h2
      have hj : j < l.length := by
        rcases Nat.lt_or_ge j l.length with z | z
        · exact z
        · have := stp_none_add hend (j - l.length)
          rw [show l.length + (j - l.length) = j by omega, h1] at this
          cases this
      have hj2 : ¬ j + 1 < l.length := fun z => by
        have := hl (j + 1)
        rw [e3, List.getElem?_eq_getElem z] at this
        cases this
      rw [show l.length - 1 = j by omega]
      exact h1
  · rw [e]
    show (none : Option (Nat × Nat)) = some c ↔ _
    constructor
    · intro z
      cases z
    · rintro ⟨j, h1, h2⟩
      exfalso
      have hbl : b < m.length := (List.getElem?_eq_some_iff.mp hb).1
      have g1 : stp p os b st = some t := by
        rw [← hl b (Nat.le_of_lt hbl), List.getElem?_append_left hbl]
        exact hb
      have g2 : stp p os (b + (m.length - b)) st = some (shf (p * k) t) := by
        rw [show b + (m.length - b) = m.length by omega, ← hl _ (Nat.le_refl _), List.getElem?_append_right (Nat.le_refl _), Nat.sub_self, hs]
        rfl
      have hr := stp_round (N := m.length - b) (k0 := k) rfl g1 g2 (j + 1) 0
      have n1 : 1 ≤ m.length - b := by omega
      have n2 : 1 * (j + 1) ≤ (m.length - b) * (j + 1) := Nat.mul_le_mul_right _ n1
      have e3 := stp_none_add (stp_succ_none h1 h2) (b + 0 + (m.length - b) * (j + 1) - (j + 1))
      rw [show j + 1 + (b + 0 + (m.length - b) * (j + 1) - (j + 1)) = b + 0 + (m.length - b) * (j + 1) by omega, hr, show stp p os (b + 0) st = some t from g1] at e3
      cases e3
theorem dst_end {p h : Nat} {os : List Od} {st : Nat × Nat} (ok : NetOk p h os) (hh : st.1 < h) (e : hop p os st = none) : dst p h os st = some st := (dst_iff ok hh).mpr ⟨0, rfl, e⟩
theorem dst_stp {p h : Nat} {os : List Od} {st s : Nat × Nat} {i : Nat} (ok : NetOk p h os) (hh : st.1 < h) (e : stp p os i st = some s) : dst p h os st = dst p h os s := by
  have hs := pst_house ok hh i e
  apply Option.ext
  intro c
  rw [dst_iff ok hh, dst_iff ok hs]
  constructor
  · rintro ⟨j, h1, h2⟩
    by_cases z : i ≤ j
    · refine ⟨j - i, ?_, h2⟩
      rw [show j = i + (j - i) by omega, stp_add, e] at h1
      exact h1
    · have e3 := stp_none_add (stp_succ_none h1 h2) (i - (j + 1))
      rw [show j + 1 + (i - (j + 1)) = i by omega, e] at e3
      cases e3
  · rintro ⟨j, h1, h2⟩
    refine ⟨i + j, ?_, h2⟩
    rw [stp_add, e]
    exact h1
theorem hop_shf_none {p : Nat} {os : List Od} {k : Nat} {s : Nat × Nat} : hop p os (shf (p * k) s) = none ↔ hop p os s = none := by
  rw [hop_shf, Option.map_eq_none_iff]
theorem dst_shf {p h : Nat} {os : List Od} {st : Nat × Nat} {k : Nat} (ok : NetOk p h os) (hh : st.1 < h) : dst p h os (shf (p * k) st) = (dst p h os st).map (shf (p * k)) := by
  apply Option.ext
  intro c
  rw [dst_iff ok (show (shf (p * k) st).1 < h from hh), Option.map_eq_some_iff]
  constructor
  · rintro ⟨j, h1, h2⟩
    rw [stp_shf] at h1
    obtain ⟨c', h3, rfl⟩ := Option.map_eq_some_iff.mp h1
    exact ⟨c', (dst_iff ok hh).mpr ⟨j, h3, hop_shf_none.mp h2⟩, rfl⟩
  · rintro ⟨c', h1, rfl⟩
    obtain ⟨j, h3, h4⟩ := (dst_iff ok hh).mp h1
    exact ⟨j, by rw [stp_shf, h3]; rfl, hop_shf_none.mpr h4⟩
theorem dst_cycle {p h : Nat} {os : List Od} {st : Nat × Nat} {i k : Nat} (ok : NetOk p h os) (hh : st.1 < h) (e : stp p os i st = some (shf (p * k) st)) (hk : 0 < p * k) : dst p h os st = none := by
  have h1 := dst_stp ok hh e
  rw [dst_shf ok hh] at h1
  cases q : dst p h os st with
  | none => rfl
  | some c =>
    rw [q] at h1
    have h2 : c.2 = c.2 + p * k := congrArg Prod.snd (Option.some.inj h1)
    omega
theorem dst_le {p h : Nat} {os : List Od} {st c : Nat × Nat} (ok : NetOk p h os) (hh : st.1 < h) (e : dst p h os st = some c) : st.2 ≤ c.2 := by
  obtain ⟨j, h1, _⟩ := (dst_iff ok hh).mp e
  cases j with
  | zero =>
    cases h1
    exact Nat.le_refl _
  | succ j => exact Nat.le_of_lt (stp_more (i := 0) (k := j) ok rfl (by rw [Nat.zero_add]; exact h1))
theorem dst_house {p h : Nat} {os : List Od} {st c : Nat × Nat} (ok : NetOk p h os) (hh : st.1 < h) (e : dst p h os st = some c) : c.1 < h := by
  obtain ⟨j, h1, _⟩ := (dst_iff ok hh).mp e
  exact pst_house ok hh j h1
theorem dst_plc {p h : Nat} {os : List Od} {st : Nat × Nat} (ok : NetOk p h os) (hh : st.1 < h) : dst p h os st = (dst p h os (plc p st)).map (shf (p * (st.2 / p))) := by
  rw [← dst_shf ok (show (plc p st).1 < h from hh), ← shf_plc]
/-- the goal of a letter, and how many days it takes -/
def wayOf (p h : Nat) (os : List Od) (s : Nat × Nat) : Option (Nat × Nat) := (dst p h os s).map fun g => (g.1, g.2 - s.2)
theorem wayOf_dst {p h : Nat} {os : List Od} {s : Nat × Nat} (ok : NetOk p h os) (hh : s.1 < h) : dst p h os s = (wayOf p h os s).map fun g => (g.1, s.2 + g.2) := by
  unfold wayOf
  rw [Option.map_map]
  cases q : dst p h os s with
  | none => rfl
  | some c =>
    have := dst_le ok hh q
    show some c = some (c.1, s.2 + (c.2 - s.2))
    rw [show s.2 + (c.2 - s.2) = c.2 by omega]
theorem wayOf_plc {p h : Nat} {os : List Od} {s : Nat × Nat} (ok : NetOk p h os) (hh : s.1 < h) : wayOf p h os (plc p s) = wayOf p h os s := by
  unfold wayOf
  rw [dst_plc ok hh, Option.map_map]
  cases q : dst p h os (plc p s) with
  | none => rfl
  | some c =>
    show some (c.1, c.2 - s.2 % p) = some (c.1, c.2 + p * (s.2 / p) - s.2)
    have := Nat.div_add_mod s.2 p
    rw [show c.2 + p * (s.2 / p) - s.2 = c.2 - s.2 % p by omega]
theorem dst_way {p h : Nat} {os : List Od} {s : Nat × Nat} (ok : NetOk p h os) (hh : s.1 < h) : dst p h os s = (wayOf p h os (plc p s)).map fun g => (g.1, s.2 + g.2) := by
  rw [wayOf_plc ok hh]
  exact wayOf_dst ok hh
/-- the table of ways: keys and values -/
def wkv (p : Nat) (ks : List (Nat × Nat)) (f : Nat × Nat → V) : List (List Key × V) := ks.map fun s => (keyOf p s, f s)
def setF (f : Nat × Nat → V) (q : Nat × Nat) (v : V) : Nat × Nat → V := fun s => if s = q then v else f s
theorem key_plc {p : Nat} {s : Nat × Nat} : keyOf p (plc p s) = keyOf p s := keyOf_eq.mpr (plc_plc s)
theorem key_at {p : Nat} {q s : Nat × Nat} (hq : plc p q = q) : keyOf p q = keyOf p s ↔ q = plc p s := by
  rw [keyOf_eq, hq]
theorem wkv_val {p : Nat} {f : Nat × Nat → V} {s : Nat × Nat} : ∀ {ks : List (Nat × Nat)}, (∀ q ∈ ks, plc p q = q) → valV (wkv p ks f) (keyOf p s) = if plc p s ∈ ks then some (f (plc p s)) else none
  | [], _ => rfl
  | q :: ks, h => by
    have hq := h q List.mem_cons_self
    have ih := wkv_val (p := p) (f := f) (s := s) fun r hr => h r (List.mem_cons_of_mem _ hr)
    by_cases c : q = plc p s
    · rw [if_pos (by rw [c]; exact List.mem_cons_self)]
      show valV ((keyOf p q, f q) :: wkv p ks f) (keyOf p s) = _
      rw [valV_pos ((key_at hq).mpr c), c]
    · show valV ((keyOf p q, f q) :: wkv p ks f) (keyOf p s) = _
      rw [valV_neg fun z => c ((key_at hq).mp z), ih]
      by_cases m : plc p s ∈ ks
      · rw [if_pos m, if_pos (List.mem_cons_of_mem _ m)]
      · rw [if_neg m, if_neg fun z => (List.mem_cons.mp z).elim (fun e => c e.symm) m]
theorem wkv_ext {p : Nat} {f g : Nat × Nat → V} {ks : List (Nat × Nat)} (h : ∀ q ∈ ks, f q = g q) : wkv p ks f = wkv p ks g := by
  unfold wkv
  exact List.map_congr_left fun q hq => by rw [h q hq]
theorem wkv_new {p : Nat} {f : Nat × Nat → V} {s : Nat × Nat} {v : V} {ks : List (Nat × Nat)} (h : ∀ q ∈ ks, plc p q = q) (hn : plc p s ∉ ks) : putK (wkv p ks f) (keyOf p s) v = wkv p (ks ++ [plc p s]) (setF f (plc p s) v) := by
  rw [Cp.putK_new (by rw [wkv_val h, if_neg hn])]
  show _ = wkv p (ks ++ [plc p s]) _
  unfold wkv
  rw [List.map_append]
  congr 1
  · exact List.map_congr_left fun q hq => by
      show (keyOf p q, f q) = (keyOf p q, if q = plc p s then v else f q)
      rw [if_neg fun e : q = plc p s => hn (e ▸ hq)]
  · show [(keyOf p s, v)] = [(keyOf p (plc p s), setF f (plc p s) v (plc p s))]
    unfold setF
    rw [if_pos rfl, key_plc]
theorem wkv_old {p : Nat} {f : Nat × Nat → V} {s : Nat × Nat} {v : V} {ks : List (Nat × Nat)} (h : ∀ q ∈ ks, plc p q = q) (hn : plc p s ∈ ks) : putK (wkv p ks f) (keyOf p s) v = wkv p ks (setF f (plc p s) v) := by
  unfold putK
  have e : ((wkv p ks f).any fun kv => decide (kv.1 = keyOf p s)) = true := by
    rw [valV_any, wkv_val h, if_pos hn]
    rfl
  rw [if_pos e]
  unfold wkv
  rw [List.map_map]
  refine List.map_congr_left fun q hq => ?_
  show (if keyOf p q = keyOf p s then (keyOf p q, v) else (keyOf p q, f q)) = (keyOf p q, setF f (plc p s) v q)
  unfold setF
  by_cases c : q = plc p s
  · rw [if_pos ((key_at (h q hq)).mpr c), if_pos c]
  · rw [if_neg fun z => c ((key_at (h q hq)).mp z), if_neg c]
/-! ### comprehensions that choose from a range, or from a list of numbers -/
theorem take_filter {α : Type} {f : α → Bool} {l : List α} {i : Nat} {q : α} (e : l[i]? = some q) : (l.take (i + 1)).filter f = (l.take i).filter f ++ (if f q = true then [q] else []) := by
  rw [List.take_add_one, e, List.filter_append]
  by_cases c : f q = true <;> simp [c]
theorem nints_len {l : List Nat} : (nints l).length = l.length := by
  unfold nints
  rw [List.length_map]
theorem nints_app {l m : List Nat} : nints (l ++ m) = nints l ++ nints m := by
  unfold nints
  rw [List.map_append]
theorem nints_V {l : List Nat} : nints l = (l.map fun (n : Nat) => (n : Int)).map V.int := by
  unfold nints
  rw [List.map_map]
  rfl
theorem nints_get {l : List Nat} {i : Nat} {v : V} (h : (nints l)[i]? = some v) : ∃ n, l[i]? = some n ∧ v = .int (n : Nat) := by
  unfold nints at h
  rw [List.getElem?_map, Option.map_eq_some_iff] at h
  obtain ⟨n, h1, h2⟩ := h
  exact ⟨n, h1, h2.symm⟩
theorem lc_rfilt {m : Int} {n v : Nat} {tt : TT} {σ : L2.St} {H1 : Hp} {D : Addr} {Qd : Hp → Prop} (f : Nat → Bool) (hm : m.toNat = n) (hn : n ≤ 1000)
    (hw : ∀ x, wipe ((wipe σ [v]).set v x) [v] = wipe σ [v]) (hv : ∀ x, ((wipe σ [v]).set v x)[v]? = some x)
    (ht : ∀ (i : Nat) l (Q : Bool → Hp → Prop), i < n → Q (f i) (upd H1 D (.lst l)) → tt ((wipe σ [v]).set v (some (.int (i : Nat)))) (upd H1 D (.lst l)) Q)
    (hd : Qd (upd H1 D (.lst (nints ((List.range n).filter f))))) :
    ∃ W : Nat → Nat → Hp → Prop, (∃ k, W 0 k (upd H1 D (.lst []))) ∧ ∀ i k H, W i k H →
      ((Itr 0 m.toNat).stop i H ∧ Qd H) ∨ ((Itr 0 m.toNat).go i H ∧ ∃ Nx : Hp → Prop, (∀ H', Nx H' → ∃ k', k' < k ∧ W (i + 1) k' H') ∧ ∀ x H', (Itr 0 m.toNat).yld i H x H' → gName v x (wipe σ [v]) H' fun σ2 H2 => wipe σ2 [v] = wipe σ [v] ∧ tt σ2 H2 fun b H3 =>
        if b = true then tVar v σ2 H3 fun y H4 => ∃ acc, H4 D = some (.lst acc) ∧ acc.length < sizeLine ∧ Nx (upd H4 D (.lst (acc ++ [y]))) else Nx H3) := by
  subst hm
  refine lc_range (lo := 0) (n := m.toNat) (fun i H' => H' = upd H1 D (.lst (nints ((List.range i).filter f)))) rfl ?_ (fun H' e => by rw [e]; exact hd)
  rintro i H' hi rfl
  rw [show (0 : Int) + (i : Int) = (i : Nat) from Int.zero_add _]
  refine ⟨hw _, ht i _ _ hi ?_⟩
  rw [filter_range_succ']
  by_cases c : f i = true
  · rw [c, if_pos rfl, if_pos rfl]
    refine ⟨_, hv _, _, upd_same, ?_, ?_⟩
    · rw [nints_len]
      exact small1000 (Nat.le_trans (List.length_filter_le _ _) (by rw [List.length_range]; omega))
    · rw [upd_upd, nints_app]
      rfl
  · rw [Bool.eq_false_iff.mpr c, if_neg Bool.false_ne_true, if_neg Bool.false_ne_true, List.append_nil]
theorem lc_lfilt {K : PySem.W.Frag} {a : Addr} {l : List Nat} {v : Nat} {tt : TT} {σ : L2.St} {H1 : Hp} {D : Addr} {Qd : Hp → Prop} (f : Nat → Bool) (hn : l.length ≤ 1000) (ha : H1 a = some (.lst (nints l))) (naD : a ≠ D)
    (hw : ∀ x, wipe ((wipe σ [v]).set v x) [v] = wipe σ [v]) (hv : ∀ x, ((wipe σ [v]).set v x)[v]? = some x)
    (ht : ∀ (i k : Nat) us (Q : Bool → Hp → Prop), l[i]? = some k → Q (f k) (upd H1 D (.lst us)) → tt ((wipe σ [v]).set v (some (.int (k : Nat)))) (upd H1 D (.lst us)) Q)
    (hd : Qd (upd H1 D (.lst (nints (l.filter f))))) :
    ∃ W : Nat → Nat → Hp → Prop, (∃ k, W 0 k (upd H1 D (.lst []))) ∧ ∀ i k H, W i k H →
      ((Itl K a).stop i H ∧ Qd H) ∨ ((Itl K a).go i H ∧ ∃ Nx : Hp → Prop, (∀ H', Nx H' → ∃ k', k' < k ∧ W (i + 1) k' H') ∧ ∀ x H', (Itl K a).yld i H x H' → gName v x (wipe σ [v]) H' fun σ2 H2 => wipe σ2 [v] = wipe σ [v] ∧ tt σ2 H2 fun b H3 =>
        if b = true then tVar v σ2 H3 fun y H4 => ∃ acc, H4 D = some (.lst acc) ∧ acc.length < sizeLine ∧ Nx (upd H4 D (.lst (acc ++ [y]))) else Nx H3) := by
  refine lc_list (K := K) (a := a) (xs := nints l) (fun i H' => H' = upd H1 D (.lst (nints ((l.take i).filter f)))) rfl (fun i H' _ e => by rw [e]; exact SqL.of ((upd_ne naD).trans ha)) ?_ (fun H' e => by
    rw [e, nints_len, List.take_of_length_le (Nat.le_refl _)]
    exact hd)
  rintro i x H' hi rfl
  obtain ⟨k, hk, rfl⟩ := nints_get hi
  refine ⟨hw _, ht i k _ _ hk ?_⟩
  have il := (List.getElem?_eq_some_iff.mp hk).1
  rw [take_filter hk]
  by_cases c : f k = true
  · rw [c, if_pos rfl, if_pos rfl]
    refine ⟨_, hv _, _, upd_same, ?_, ?_⟩
    · rw [nints_len]
      exact small1000 (Nat.le_trans (List.length_filter_le _ _) (by rw [List.length_take]; omega))
    · rw [upd_upd, nints_app]
      rfl
  · rw [Bool.eq_false_iff.mpr c, if_neg Bool.false_ne_true, if_neg Bool.false_ne_true, List.append_nil]
theorem lc_rfiltS {m : Int} {n v : Nat} {tt : TT} {σ : L2.St} {H1 : Hp} {D : Addr} {Qd : Hp → Prop} (f : Nat → Bool) (hm : m.toNat = n) (hn : n ≤ 1000) (nD : H1 D = none)
    (hw : ∀ x, wipe ((wipe σ [v]).set v x) [v] = wipe σ [v]) (hv : ∀ x, ((wipe σ [v]).set v x)[v]? = some x)
    (ht : ∀ (i : Nat) H2 (Q : Bool → Hp → Prop), i < n → Same H1 H2 → (∀ H3, Same H2 H3 → Q (f i) H3) → tt ((wipe σ [v]).set v (some (.int (i : Nat)))) H2 Q)
    (hd : ∀ H', Same H1 H' → H' D = some (.lst (nints ((List.range n).filter f))) → Qd H') :
    ∃ W : Nat → Nat → Hp → Prop, (∃ k, W 0 k (upd H1 D (.lst []))) ∧ ∀ i k H, W i k H →
      ((Itr 0 m.toNat).stop i H ∧ Qd H) ∨ ((Itr 0 m.toNat).go i H ∧ ∃ Nx : Hp → Prop, (∀ H', Nx H' → ∃ k', k' < k ∧ W (i + 1) k' H') ∧ ∀ x H', (Itr 0 m.toNat).yld i H x H' → gName v x (wipe σ [v]) H' fun σ2 H2 => wipe σ2 [v] = wipe σ [v] ∧ tt σ2 H2 fun b H3 =>
        if b = true then tVar v σ2 H3 fun y H4 => ∃ acc, H4 D = some (.lst acc) ∧ acc.length < sizeLine ∧ Nx (upd H4 D (.lst (acc ++ [y]))) else Nx H3) := by
  subst hm
  refine lc_range (lo := 0) (n := m.toNat) (fun i H' => Same H1 H' ∧ H' D = some (.lst (nints ((List.range i).filter f)))) ⟨same_upd nD, upd_same⟩ ?_ (fun H' e => hd H' e.1 e.2)
  rintro i H' hi ⟨s', hD⟩
  rw [show (0 : Int) + (i : Int) = (i : Nat) from Int.zero_add _]
  refine ⟨hw _, ht i _ _ hi s' fun H3 s3 => ?_⟩
  have hD3 := s3 _ _ hD
  rw [filter_range_succ']
  by_cases c : f i = true
  · rw [c, if_pos rfl, if_pos rfl]
    refine ⟨_, hv _, _, hD3, ?_, fun b o e => ?_, ?_⟩
    · rw [nints_len]
      exact small1000 (Nat.le_trans (List.length_filter_le _ _) (by rw [List.length_range]; omega))
    · rw [upd_ne (ne_of_none e nD)]
      exact s3 _ _ (s' _ _ e)
    · rw [upd_same, nints_app]
      rfl
  · rw [Bool.eq_false_iff.mpr c, if_neg Bool.false_ne_true, if_neg Bool.false_ne_true, List.append_nil]
    exact ⟨s'.trans s3, hD3⟩
/-! ### results and lists of stops as data -/
section
open PySem.W (alike alikeAll dataLt AllAlike Sortable dataLe)
theorem plD_depth (b : Nat × Nat) : (plD b).depth ≤ 60 := by
  have e : (plD b).depth = 1 := by simp [plD, PyData.depth, PyData.depthAll]
  omega
def optD : Option (Nat × Nat) → PyData
  | none => .none
  | some s => plD s
theorem opt_dp {K : PySem.W.Frag} {H : Hp} {v : V} {o : Option (Nat × Nat)} (h : OptStop H v o) : Dp K H v (optD o) := by
  cases o with
  | none =>
    obtain rfl : v = .non := h
    exact .non
  | some s => exact stop_dp h
theorem optD_shaped (o : Option (Nat × Nat)) : PySem.SeqAt.shaped (optD o) = true := by
  cases o with
  | none => rfl
  | some s => exact plD_shaped s
theorem optD_eqv (a b : Option (Nat × Nat)) : PyData.eqv (optD a) (optD b) = decide (a = b) := by
  cases a with
  | none =>
    cases b with
    | none => simp [optD, PyData.eqv]
    | some t => simp [optD, plD, PyData.eqv]
  | some s =>
    cases b with
    | none => simp [optD, plD, PyData.eqv]
    | some t =>
      show PyData.eqv (plD s) (plD t) = _
      rw [plD_eqv]
      by_cases c : s = t
      · rw [decide_eq_true c, decide_eq_true (by rw [c])]
      · rw [decide_eq_false c, decide_eq_false fun e => c (Option.some.inj e)]
theorem plA_eqv : ∀ a b : List (Nat × Nat), PyData.eqvAll (a.map plD) (b.map plD) = decide (a = b)
  | [], [] => by simp [PyData.eqvAll]
  | [], _ :: _ => by simp [PyData.eqvAll]
  | _ :: _, [] => by simp [PyData.eqvAll]
  | x :: xs, y :: ys => by
    rw [List.map_cons, List.map_cons, PySem.W.eqv_all_cons, plD_eqv, plA_eqv xs ys]
    by_cases h1 : x = y <;> by_cases h2 : xs = ys <;> simp [h1, h2]
theorem plL_eqv (a b : List (Nat × Nat)) : PyData.eqv (.list (a.map plD)) (.list (b.map plD)) = decide (a = b) := by
  rw [← plA_eqv]
  simp [PyData.eqv]
theorem pl_any (l : List (Nat × Nat)) (s : Nat × Nat) : ((l.map plD).any fun z => PyData.eqv z (plD s)) = decide (s ∈ l) := by
  induction l with
  | nil => simp
  | cons a l ih =>
    rw [List.map_cons, List.any_cons, ih, plD_eqv]
    by_cases h1 : a = s <;> by_cases h2 : s ∈ l <;> simp [h1, h2]
    exact fun e => h1 e.symm
end
theorem ints_empty (l : List Nat) : (!PyData.eqv (.list ((l.map fun (n : Nat) => (n : Int)).map PyData.int)) (.list [])) = !l.isEmpty := by
  cases l <;> rfl
theorem ints_empty' (l : List Nat) : PyData.eqv (.list ((l.map fun (n : Nat) => (n : Int)).map PyData.int)) (.list []) = l.isEmpty := by
  cases l <;> rfl
theorem dec_le {a b : Nat} : decide ((a : Int) ≤ (b : Int)) = decide (a ≤ b) := by
  by_cases c : a ≤ b
  · rw [decide_eq_true c, decide_eq_true (by omega)]
  · rw [decide_eq_false c, decide_eq_false (by omega)]
theorem dec_intV {a b : Nat} : decide (V.int (a : Int) = V.int (b : Int)) = decide (a = b) := by
  by_cases c : a = b
  · rw [decide_eq_true c, decide_eq_true (by rw [c])]
  · rw [decide_eq_false c, decide_eq_false fun y => c (by have := V.int.inj y; omega)]
def tNotN (t : TE) : TT := tTest (tOp (fun x y H Q => y = V.non ∧ Q (V.bl (!decide (x = .non))) H) t (tC .non))
theorem Paired.app {α β : Type} {F : α → β → Prop} : ∀ {a : List α} {b : List β} {c : List α} {d : List β}, Paired F a b → Paired F c d → Paired F (a ++ c) (b ++ d)
  | _, _, _, _, .nil, q => q
  | _, _, _, _, .cons r t, q => .cons r (Paired.app t q)
/-! ### slices and sums of tuples -/
theorem slA_case {K : PySem.W.Frag} {t0 : Addr} {ts : List V} {lo hi : Option Int} {H : Hp} {Q : VK} (ht : H t0 = some (.tup ts)) (h : ∀ b H', Same H H' → H' b = some (.tup (cutV ts lo hi)) → Q (.ref b) H') : rSlA K (.ref t0) lo hi H Q := by
  refine ⟨t0, ts, rfl, SqT.of ht, fun hf => h t0 H (.refl H) ?_, fun hn p np => h p _ (same_upd np) upd_same⟩
  unfold cutV
  rw [hf.1, hf.2, List.drop_zero, Nat.sub_zero, List.take_of_length_le (Nat.le_refl _)]
  exact ht
theorem catA_case {K : PySem.W.Frag} {a b : Addr} {xs ys : List V} {H : Hp} {Q : VK} (ha : H a = some (.tup xs)) (hb : H b = some (.tup ys)) (hl : xs.length + ys.length ≤ sizeLine) (h : ∀ c H', Same H H' → H' c = some (.tup (xs ++ ys)) → Q (.ref c) H') : rCatA K (.ref a) (.ref b) H Q := by
  refine ⟨a, b, xs, ys, rfl, rfl, SqT.of ha, SqT.of hb, hl, fun e => ?_, fun _ e => ?_, fun _ _ p np => h p _ (same_upd np) upd_same⟩
  · subst e
    exact h b H (.refl H) hb
  · subst e
    rw [List.append_nil] at h
    exact h a H (.refl H) ha
/-- the orders but the k-th -/
def wo (os : List Od) (k : Nat) : List Od := os.take k ++ os.drop (k + 1)
theorem wo_ok {p h k : Nat} {os : List Od} (ok : NetOk p h os) : NetOk p h (wo os k) := by
  refine { ok with len := ?_, ok := fun o ho => ?_ }
  · unfold wo
    rw [List.length_append, List.length_take, List.length_drop]
    have := ok.len
    omega
  · rcases List.mem_append.mp ho with z | z
    · exact ok.ok o (List.mem_of_mem_take z)
    · exact ok.ok o (List.mem_of_mem_drop z)
abbrev s_without_order : Stmt := top 31
abbrev N_without_order : List Str := ["orders", "index"]
abbrev P_without_order : List Str := ["orders", "index"]
theorem sc_without_order : FnScope N_without_order P_without_order (defScope s_without_order) := ⟨rfl, rfl, rfl, by decide +kernel, rfl, by decide +kernel, by decide +kernel⟩
/-! ### a tuple without one of its values -/
def spWo : Sp := fun vs H Q _ => ∃ (t : Addr) (k : Nat) (ts : List V), vs = [.ref t, .int k] ∧ H t = some (.tup ts) ∧ ts.length ≤ 1000 ∧
  ∀ H' c, Same H H' → H' c = some (.tup (ts.take k ++ ts.drop (k + 1))) → Q (.ref c) H'
section
variable {P : Program} {w : World} {K : PySem.W.Frag} {mg : Str → Option Value} {base : Heap}
theorem ok_wo {f : Addr} {fd : FuncData} (F : Fun K "without_order" "without_order" s_without_order f fd) : FnOk P w K mg base CX0 1 f fd P_without_order spWo := by
  refine F.ok sc_without_order (fun vs H Q E h => ?_) (fun cdv A outer s H vs Q E hr h => ?_)
  · obtain ⟨t, k, ts, rfl, _⟩ := h
    rfl
  · obtain ⟨t, k, ts, rfl, ht, tl, q⟩ := h
    refine ⟨_, pss_one (ps_ret (pe_op op_catA (pe_slice sl_tupA (pv 0) po_none (po_some (pv 1))) (pe_slice sl_tupA (pv 0) (po_some (pe_op op_add (pv 1) pe_int)) po_none))), ?_⟩
    refine ⟨_, rfl, _, rfl, (k : Nat), rfl, ?_⟩
    refine slA_case ht fun b H1 s1 hb => ?_
    have ht1 := s1 _ _ ht
    refine ⟨_, rfl, _, rfl, _, _, rfl, rfl, (k : Int) + 1, rfl, ?_⟩
    unfold tNoPart
    refine slA_case (lo := some ((k : Int) + 1)) (hi := none) ht1 fun b2 H2 s2 hb2 => ?_
    rw [cut_to] at hb
    rw [show ((k : Int) + 1) = ((k + 1 : Nat) : Int) from rfl, cut_from] at hb2
    exact catA_case (s2 _ _ hb) hb2 (by rw [List.length_take, List.length_drop]; exact Nat.le_of_lt (small1000 (by omega))) fun c H3 s3 hc => q H3 c (s1.trans (s2.trans s3)) hc
end
abbrev s_with_order : Stmt := top 30
abbrev N_with_order : List Str := ["orders", "index", "order"]
abbrev P_with_order : List Str := ["orders", "index", "order"]
theorem sc_with_order : FnScope N_with_order P_with_order (defScope s_with_order) := ⟨rfl, rfl, rfl, by decide +kernel, rfl, by decide +kernel, by decide +kernel⟩
/-! ### a tuple with another value in place of one -/
def spWith : Sp := fun vs H Q _ => ∃ (t : Addr) (k : Nat) (ts : List V) (v : V), vs = [.ref t, .int k, v] ∧ H t = some (.tup ts) ∧ ts.length ≤ 900 ∧
  ∀ H' c, Same H H' → H' c = some (.tup (ts.take k ++ [v] ++ ts.drop (k + 1))) → Q (.ref c) H'
section
variable {P : Program} {w : World} {K : PySem.W.Frag} {mg : Str → Option Value} {base : Heap}
theorem ok_with {f : Addr} {fd : FuncData} (F : Fun K "with_order" "with_order" s_with_order f fd) : FnOk P w K mg base CX0 1 f fd P_with_order spWith := by
  refine F.ok sc_with_order (fun vs H Q E h => ?_) (fun cdv A outer s H vs Q E hr h => ?_)
  · obtain ⟨t, k, ts, v, rfl, _⟩ := h
    rfl
  · obtain ⟨t, k, ts, v, rfl, ht, tl, q⟩ := h
    refine ⟨_, pss_one (ps_ret (pe_op op_catA (pe_op op_catA (pe_slice sl_tupA (pv 0) po_none (po_some (pv 1))) (pe_tup (pa_cons (pv 2) pa_nil))) (pe_slice sl_tupA (pv 0) (po_some (pe_op op_add (pv 1) pe_int)) po_none))), ?_⟩
    refine ⟨_, rfl, _, rfl, (k : Nat), rfl, ?_⟩
    refine slA_case ht fun b H1 s1 hb => ?_
    rw [cut_to] at hb
    have ht1 := s1 _ _ ht
    refine ⟨_, rfl, (by show 1 ≤ sizeLine; decide), fun u nu => ?_⟩
    have su := same_upd (o := HO.tup [v]) nu
    refine catA_case (su _ _ hb) upd_same (by rw [List.length_take]; exact Nat.le_of_lt (small1000 (by show _ + 1 ≤ _; omega))) fun c H2 s2 hc => ?_
    have s12 := su.trans s2
    refine ⟨_, rfl, _, rfl, _, _, rfl, rfl, (k : Int) + 1, rfl, ?_⟩
    unfold tNoPart
    refine slA_case (lo := some ((k : Int) + 1)) (hi := none) (s12 _ _ ht1) fun b2 H3 s3 hb2 => ?_
    rw [show ((k : Int) + 1) = ((k + 1 : Nat) : Int) from rfl, cut_from] at hb2
    exact catA_case (s3 _ _ hc) hb2 (by rw [List.length_append, List.length_take, List.length_drop]; exact Nat.le_of_lt (small1000 (by show _ + 1 + _ ≤ _; omega))) fun c2 H4 s4 hc2 => q H4 c2 (s1.trans (s12.trans (s3.trans s4))) hc2
end
/-! ### slices and sums of lists -/
theorem slL_case {K : PySem.W.Frag} {a : Addr} {xs : List V} {lo hi : Option Int} {H : Hp} {Q : VK} (ha : H a = some (.lst xs)) (h : ∀ b H', Same H H' → H b = none → H' b = some (.lst (cutV xs lo hi)) → Q (.ref b) H') : rSlL K (.ref a) lo hi H Q :=
  ⟨a, xs, rfl, SqL.of ha, fun p np => h p _ (same_upd np) np upd_same⟩
theorem catL_case {a b : Addr} {xs ys : List V} {H : Hp} {Q : VK} (ha : H a = some (.lst xs)) (hb : H b = some (.lst ys)) (hl : xs.length + ys.length ≤ sizeLine) (h : ∀ c H', Same H H' → H c = none → H' c = some (.lst (xs ++ ys)) → Q (.ref c) H') : rCat (.ref a) (.ref b) H Q :=
  ⟨a, b, xs, ys, rfl, rfl, ha, hb, hl, fun p np => h p _ (same_upd np) np upd_same⟩
theorem Paired.setAt {α β : Type} {F : α → β → Prop} {x : α} {y : β} : ∀ {l1 : List α} {l2 : List β} (k : Nat), Paired F l1 l2 → F x y → Paired F (l1.set k x) (l2.set k y)
  | _, _, _, .nil, _ => .nil
  | _, _, 0, .cons _ t, q => .cons q t
  | _, _, k + 1, .cons r t, q => .cons r (Paired.setAt k t q)
/-! ### delivered by a day, on a day -/
def byDay (p h : Nat) (os : List Od) (day : Nat) (s : Nat × Nat) : Bool := match dst p h os s with
  | none => false
  | some c => decide (c.2 ≤ day)
def onDayB (p h : Nat) (os : List Od) (day : Nat) (s : Nat × Nat) : Bool := match dst p h os s with
  | none => false
  | some c => decide (c.2 = day)
theorem byDay_some {p h day : Nat} {os : List Od} {s c : Nat × Nat} (e : dst p h os s = some c) : byDay p h os day s = decide ((c.2 : Int) ≤ (day : Int)) := by
  unfold byDay
  rw [e, dec_le]
theorem onDay_some {p h day : Nat} {os : List Od} {s c : Nat × Nat} (e : dst p h os s = some c) : onDayB p h os day s = decide (V.int (c.2 : Int) = V.int (day : Int)) := by
  unfold onDayB
  rw [e, dec_intV]
theorem odK {p h s t f n e : Nat} (h1 : s < h) (h2 : t < h) (h3 : s ≠ t) (h4 : f < p) (h5 : 1 ≤ n) (h6 : n ≤ p) (h7 : 1 ≤ e) (h8 : e ≤ 9) : OdOk p h ⟨s, t, f, n, e⟩ := ⟨h1, h2, h3, h4, h5, h6, h7, h8⟩
/-! ### words and numbers -/
def digB (w : Str) : Bool := Txt.isascii w && Txt.isdigit w
def numB (w : Str) : Bool := digB w && (decide (w = "0") || (decide (w.length ≤ 3) && !decide (w.cps.toList.head? = some 48)))
/-- a word, and the number that it is, if it is one -/
structure Wk (w : Str) (v : Option Nat) : Prop where
  num : numB w = v.isSome
  int : ∀ n, v = some n → PySem.intText? w = some (n : Int)
  len : w.length ≤ 640
/-! ### numbers as texts -/
def nT (n : Nat) : Str := Str.ofString (toString (n : Int))
def nTok (n : Nat) : Bool := numB (nT n) && decide (PySem.intText? (nT n) = some (n : Int)) && decide ((nT n).length ≤ 2) && (nT n).cps.all (fun c => decide (48 ≤ c ∧ c ≤ 57))
theorem nTok_all : (List.range 31).all nTok = true := by decide +kernel
theorem nT_ok {n : Nat} (h : n ≤ 30) : numB (nT n) = true ∧ PySem.intText? (nT n) = some (n : Int) ∧ (nT n).length ≤ 2 ∧ ∀ c ∈ (nT n).cps.toList, 48 ≤ c ∧ c ≤ 57 := by
  have h1 := List.all_eq_true.mp nTok_all n (List.mem_range.mpr (by omega))
  unfold nTok at h1
  rw [Bool.and_eq_true, Bool.and_eq_true, Bool.and_eq_true] at h1
  obtain ⟨⟨⟨a, b⟩, c⟩, d⟩ := h1
  refine ⟨a, of_decide_eq_true b, of_decide_eq_true c, fun x hx => ?_⟩
  have := Array.all_eq_true_iff_forall_mem.mp d x (Array.mem_toList_iff.mp hx)
  exact of_decide_eq_true this
/-! ### texts of nets: plain mathematics -/
theorem mem_joinL {S : List Nat} {x : Nat} : ∀ {parts : List (List Nat)}, x ∈ TL.joinL S parts → x ∈ S ∨ ∃ p ∈ parts, x ∈ p
  | [], h => by cases h
  | [p], h => .inr ⟨p, List.mem_singleton.mpr rfl, h⟩
  | p :: q :: r, h => by
    rcases List.mem_append.mp (show x ∈ p ++ (S ++ TL.joinL S (q :: r)) from h) with h | h
    · exact .inr ⟨p, List.mem_cons_self, h⟩
    · rcases List.mem_append.mp h with h | h
      · exact .inl h
      · rcases mem_joinL h with h | ⟨z, hz, h⟩
        · exact .inl h
        · exact .inr ⟨z, List.mem_cons_of_mem _ hz, h⟩
theorem mem_join {y : Str} {x : Nat} {parts : List Str} (h : x ∈ TL.tl (Txt.join y parts)) : x ∈ TL.tl y ∨ ∃ p ∈ parts, x ∈ TL.tl p := by
  rw [TL.join_eq, TL.tl_join] at h
  rcases mem_joinL h with h | ⟨z, hz, h⟩
  · exact .inl h
  · obtain ⟨p, hp, rfl⟩ := List.mem_map.mp hz
    exact .inr ⟨p, hp, h⟩
theorem len_joinL {S : List Nat} : ∀ parts : List (List Nat), (TL.joinL S parts).length ≤ (parts.map List.length).sum + parts.length * S.length
  | [] => Nat.zero_le _
  | [p] => by
    show p.length ≤ _
    simp
  | p :: q :: r => by
    have ih := len_joinL (S := S) (q :: r)
    show (p ++ (S ++ TL.joinL S (q :: r))).length ≤ _
    rw [List.length_append, List.length_append, List.map_cons, List.sum_cons, List.length_cons, Nat.succ_mul]
    omega
theorem len_join {y : Str} (parts : List Str) : (Txt.join y parts).length ≤ (parts.map (·.length)).sum + parts.length * y.length := by
  have h := len_joinL (S := TL.tl y) (parts.map TL.tl)
  rw [TL.len_tl, TL.join_eq, TL.tl_join, TL.len_tl y]
  rw [List.map_map, List.length_map] at h
  exact h
def wordsO (o : Od) : List Str := [nT o.s, nT o.t, nT o.f, nT o.n, nT o.e]
def lineNet (p h : Nat) : Str := Txt.join " " [("net" : Str), nT p, nT h]
def lineOrd (o : Od) : Str := Txt.join " " (("order" : Str) :: wordsO o)
def linesOf (p h : Nat) (os : List Od) : List Str := lineNet p h :: os.map lineOrd
def textOf (p h : Nat) (os : List Od) : Str := Txt.join "\n" (linesOf p h os)
/-- a word of digits or letters -/
def Plain (w : Str) : Prop := ∀ c ∈ TL.tl w, 33 ≤ c
theorem nT_plain {n : Nat} (h : n ≤ 30) : Plain (nT n) := fun c hc => by
  have := (nT_ok h).2.2.2 c hc
  omega
theorem net_plain : Plain "net" := by
  unfold Plain
  decide +kernel
theorem order_plain : Plain "order" := by
  unfold Plain
  decide +kernel
theorem od_le {p h : Nat} {os : List Od} {o : Od} (k : NetOk p h os) (ho : o ∈ os) : o.s ≤ 30 ∧ o.t ≤ 30 ∧ o.f ≤ 30 ∧ o.n ≤ 30 ∧ o.e ≤ 30 := by
  have a := k.ok o ho
  have := a.s; have := a.t; have := a.f; have := a.n; have := a.e; have := k.p30; have := k.h10
  omega
theorem wordsO_plain {p h : Nat} {os : List Od} {o : Od} (k : NetOk p h os) (ho : o ∈ os) : ∀ w ∈ wordsO o, Plain w := by
  obtain ⟨h1, h2, h3, h4, h5⟩ := od_le k ho
  intro w hw
  unfold wordsO at hw
  simp only [List.mem_cons, List.not_mem_nil, or_false] at hw
  rcases hw with rfl | rfl | rfl | rfl | rfl
  · exact nT_plain h1
  · exact nT_plain h2
  · exact nT_plain h3
  · exact nT_plain h4
  · exact nT_plain h5
theorem split_words {ws : List Str} (hne : ws ≠ []) (h : ∀ w ∈ ws, Plain w) : Txt.split (Txt.join " " ws) " " = ws :=
  TL.split_join (s := 32) (S := []) (by decide +kernel) (by decide +kernel) hne fun w hw hc => by
    have := h w hw 32 hc
    omega
theorem line_free {ws : List Str} (h : ∀ w ∈ ws, Plain w) : 10 ∉ TL.tl (Txt.join " " ws) := fun hc => by
  rcases mem_join hc with h1 | ⟨w, hw, h1⟩
  · have : TL.tl " " = [32] := by decide +kernel
    rw [this] at h1
    simp at h1
  · have := h w hw 10 h1
    omega
theorem split_lines {ls : List Str} (hne : ls ≠ []) (h : ∀ l ∈ ls, 10 ∉ TL.tl l) : Txt.split (Txt.join "\n" ls) "\n" = ls :=
  TL.split_join (s := 10) (S := []) (by decide +kernel) (by decide +kernel) hne h
theorem split_net {p h : Nat} (hp : p ≤ 30) (hh : h ≤ 30) : Txt.split (lineNet p h) " " = [("net" : Str), nT p, nT h] := split_words (by simp) fun w hw => by
  simp only [List.mem_cons, List.not_mem_nil, or_false] at hw
  rcases hw with rfl | rfl | rfl
  · exact net_plain
  · exact nT_plain hp
  · exact nT_plain hh
theorem split_ord {p h : Nat} {os : List Od} {o : Od} (k : NetOk p h os) (ho : o ∈ os) : Txt.split (lineOrd o) " " = ("order" : Str) :: wordsO o := split_words (by simp) fun w hw => by
  rcases List.mem_cons.mp hw with rfl | hw
  · exact order_plain
  · exact wordsO_plain k ho w hw
theorem split_text {p h : Nat} {os : List Od} (k : NetOk p h os) : Txt.split (textOf p h os) "\n" = linesOf p h os := split_lines (by unfold linesOf; simp) fun l hl => by
  have := k.p30; have := k.h10
  rcases List.mem_cons.mp hl with rfl | hl
  · refine line_free fun w hw => ?_
    simp only [List.mem_cons, List.not_mem_nil, or_false] at hw
    rcases hw with rfl | rfl | rfl
    · exact net_plain
    · exact nT_plain (by omega)
    · exact nT_plain (by omega)
  · obtain ⟨o, ho, rfl⟩ := List.mem_map.mp hl
    refine line_free fun w hw => ?_
    rcases List.mem_cons.mp hw with rfl | hw
    · exact order_plain
    · exact wordsO_plain k ho w hw
theorem len_net {p h : Nat} (hp : p ≤ 30) (hh : h ≤ 30) : (lineNet p h).length ≤ 20 := by
  refine Nat.le_trans (len_join _) ?_
  have h1 := (nT_ok hp).2.2.1
  have h2 := (nT_ok hh).2.2.1
  have h3 : ("net" : Str).length = 3 := by decide +kernel
  have h4 : (" " : Str).length = 1 := by decide +kernel
  simp [h3, h4]
  omega
theorem len_ord {p h : Nat} {os : List Od} {o : Od} (k : NetOk p h os) (ho : o ∈ os) : (lineOrd o).length ≤ 30 := by
  refine Nat.le_trans (len_join _) ?_
  obtain ⟨h1, h2, h3, h4, h5⟩ := od_le k ho
  have a1 := (nT_ok h1).2.2.1
  have a2 := (nT_ok h2).2.2.1
  have a3 := (nT_ok h3).2.2.1
  have a4 := (nT_ok h4).2.2.1
  have a5 := (nT_ok h5).2.2.1
  have a6 : ("order" : Str).length = 5 := by decide +kernel
  have a7 : (" " : Str).length = 1 := by decide +kernel
  unfold wordsO
  simp [a6, a7]
  omega
theorem lines_len {p h : Nat} {os : List Od} (k : NetOk p h os) : ∀ l ∈ linesOf p h os, l.length ≤ 30 := fun l hl => by
  have := k.p30; have := k.h10
  rcases List.mem_cons.mp hl with rfl | hl
  · exact Nat.le_trans (len_net (by omega) (by omega)) (by decide)
  · obtain ⟨o, ho, rfl⟩ := List.mem_map.mp hl
    exact len_ord k ho
theorem sum_le {l : List Nat} {m : Nat} (h : ∀ x ∈ l, x ≤ m) : l.sum ≤ l.length * m := by
  induction l with
  | nil => exact Nat.zero_le _
  | cons a l ih =>
    rw [List.sum_cons, List.length_cons, Nat.succ_mul]
    have := ih fun x hx => h x (List.mem_cons_of_mem _ hx)
    have := h a List.mem_cons_self
    omega
theorem lines_sum {p h : Nat} {os : List Od} (k : NetOk p h os) : ((linesOf p h os).map (·.length)).sum ≤ 630 := by
  refine Nat.le_trans (sum_le (m := 30) fun x hx => ?_) ?_
  · obtain ⟨l, hl, rfl⟩ := List.mem_map.mp hx
    exact lines_len k l hl
  · rw [List.length_map]
    show (os.map lineOrd).length.succ * 30 ≤ 630
    rw [List.length_map]
    have := k.len
    omega
theorem len_text {p h : Nat} {os : List Od} (k : NetOk p h os) : (textOf p h os).length ≤ 700 := by
  refine Nat.le_trans (len_join _) ?_
  have h1 := lines_sum k
  have h2 : ("\n" : Str).length = 1 := by decide +kernel
  have h3 : (linesOf p h os).length ≤ 21 := by
    show (os.map lineOrd).length.succ ≤ 21
    rw [List.length_map]
    have := k.len
    omega
  rw [h2]
  omega
theorem wk_nT {n : Nat} (h : n ≤ 30) : Wk (nT n) (some n) := ⟨(nT_ok h).1, fun m e => by
  cases e
  exact (nT_ok h).2.1, by have := (nT_ok h).2.2.1; omega⟩
/-- joined words, one behind the other -/
theorem join3 (a b c : Str) : Txt.join " " [a, b, c] = a ++ " " ++ b ++ " " ++ c := by
  rw [TL.join_eq]
  refine TL.ext_tl ?_
  rw [TL.tl_join]
  simp [TL.joinL, TL.tl_append]
theorem join6 (a b c d e f : Str) : Txt.join " " [a, b, c, d, e, f] = a ++ " " ++ b ++ " " ++ c ++ " " ++ d ++ " " ++ e ++ " " ++ f := by
  rw [TL.join_eq]
  refine TL.ext_tl ?_
  rw [TL.tl_join]
  simp [TL.joinL, TL.tl_append]
theorem cat_net : (Str.empty ++ "net " : Str) = "net" ++ " " := by decide +kernel
theorem cat_order : (Str.empty ++ "order " : Str) = "order" ++ " " := by decide +kernel
theorem cat_net' : ("net " : Str) = "net" ++ " " := by decide +kernel
abbrev s_Net_text : Stmt := inClass (top 27) 5
abbrev N_Net_text : List Str := ["self", "lines", "source", "target", "first", "days", "delay"]
abbrev P_Net_text : List Str := ["self"]
theorem sc_Net_text : FnScope N_Net_text P_Net_text (defScope s_Net_text) := ⟨rfl, rfl, rfl, by decide +kernel, rfl, by decide +kernel, by decide +kernel⟩
/-! ### the text of a net -/
section
variable {P : Program} {w : World} {K : PySem.W.Frag} {mg : Str → Option Value} {base : Heap}
/-- the text of a net -/
def spText (C : Addr) : Sp := fun vs H Q _ => ∃ (x t : Addr) (p h : Nat) (os : List Od) (F : List Addr), vs = [.ref x] ∧ NetAt C H x p h os t F ∧ NetOk p h os ∧ ∀ H', Same H H' → Q (.str (textOf p h os)) H'
theorem log_small {n : Nat} (h : n ≤ 30) : ((n : Int)).natAbs.log2 < 1920 := by
  have : ((n : Int)).natAbs = n := Int.natAbs_natCast n
  rw [this]
  by_cases c : n = 0
  · subst c; decide
  · have h1 : n.log2 < 5 := (Nat.log2_lt c).mpr (Nat.lt_of_le_of_lt h (by decide))
    omega
theorem len_app (a b : Str) : (a ++ b).length = a.length + b.length := by
  rw [TL.len_tl, TL.tl_append, List.length_append, ← TL.len_tl, ← TL.len_tl]
theorem len_sp : (" " : Str).length = 1 := by decide +kernel
theorem len_net4 : (Str.empty ++ ("net " : Str)).length = 4 := by decide +kernel
theorem len_ord6 : (Str.empty ++ ("order " : Str)).length = 6 := by decide +kernel
theorem ok_text {f C : Addr} {fd : FuncData} (F : Fun K "text" "Net.text" s_Net_text f fd) (T : NetT K C) : FnOk P w K mg base CX0 2 f fd P_Net_text (spText C) := by
  refine F.ok sc_Net_text (fun vs H Q E h => ?_) (fun cdv A outer s H vs Q E hr h => ?_)
  · obtain ⟨x, t, p, h, os, F, rfl, _⟩ := h
    rfl
  · obtain ⟨x, t, p, h, os, F, rfl, Nt, nok, q⟩ := h
    refine ⟨_, pss_cons (ps_set (i := 1) sc_Net_text.nd rfl (.inl rfl) (pe_lst (pa_cons (pe_joined (.cons pe_str (.cons (pe_fmt (pe_fld (pv 0) rfl)) (.cons pe_str (.cons (pe_fmt (pe_fld (pv 0) rfl)) .nil))))) pa_nil)))
      (pss_cons (ps_for PassesOwn.never rfl (pi_tup (pe_fld (pv 0) rfl)) (pg_tup (by rfl) (pgs_cons (pg_name (i := 2) sc_Net_text.nd rfl (.inl rfl)) (pgs_cons (pg_name (i := 3) sc_Net_text.nd rfl (.inl rfl)) (pgs_cons (pg_name (i := 4) sc_Net_text.nd rfl (.inl rfl)) (pgs_cons (pg_name (i := 5) sc_Net_text.nd rfl (.inl rfl)) (pgs_cons (pg_name (i := 6) sc_Net_text.nd rfl (.inl rfl)) pgs_nil))))))
        (pss_one (ps_expr (pe_bm PySem.F.plainAttrs_list PySem.F.slot_list_append PySem.F.type_list_append mt_append (pv 1) (pa_cons (pe_joined (.cons pe_str (.cons (pe_fmt (pv 2)) (.cons pe_str (.cons (pe_fmt (pv 3)) (.cons pe_str (.cons (pe_fmt (pv 4)) (.cons pe_str (.cons (pe_fmt (pv 5)) (.cons pe_str (.cons (pe_fmt (pv 6)) .nil))))))))))) pa_nil)))))
      (pss_one (ps_ret (pe_join pe_str (pv 1))))), ?_⟩
    obtain ⟨dx, fl, as, _, hx, ⟨ts, ht, hP⟩, _⟩ := id Nt
    have p30 := nok.p30; have h10 := nok.h10; have ol := nok.len
    have hp2 := (nT_ok p30).2.2.1
    have hh2 := (nT_ok (show h ≤ 30 by omega)).2.2.1
    refine ⟨_, rfl, by rw [len_net4, sizeLine_eq]; omega, ?_⟩
    refine ⟨_, rfl, x, C, dx, _, _, rfl, hx, T.cl, T.nP, nf_pe, .inr ⟨_, rfl, log_small p30, nT p, rfl, ?_, ?_⟩⟩
    · rw [len_app, len_net4, sizeLine_eq]
      omega
    refine ⟨_, rfl, ?_, ?_⟩
    · rw [len_app, len_app, len_net4, len_sp, sizeLine_eq]
      omega
    refine ⟨_, rfl, x, C, dx, _, _, rfl, hx, T.cl, T.nH, nf_ho, .inr ⟨_, rfl, log_small (show h ≤ 30 by omega), nT h, rfl, ?_, ?_⟩⟩
    · rw [len_app, len_app, len_app, len_net4, len_sp, sizeLine_eq]
      omega
    have e1 : (((Str.empty ++ "net " : Str) ++ nT p) ++ " ") ++ nT h = lineNet p h := by
      unfold lineNet
      rw [join3, cat_net]
    refine ⟨(by show 1 ≤ sizeLine; decide), fun L nL => ?_⟩
    rw [show (V.str ((((Str.empty ++ "net ") ++ nT p) ++ " ") ++ nT h)) = V.str (lineNet p h) by rw [e1]]
    have s1 := same_upd (o := HO.lst [.str (lineNet p h)]) nL
    refine ⟨_, rfl, x, C, dx, _, _, rfl, s1 _ _ hx, T.cl, T.nO, nf_or, t, rfl, ⟨_, SqT.of (s1 _ _ ht)⟩, ?_⟩
    refine for_tup (K := K) (a := t) (xs := ts) (fun i σ H' => (∃ x2 x3 x4 x5 x6, σ = [some (.ref x), some (.ref L), x2, x3, x4, x5, x6]) ∧ H' = upd H L (.lst ((lineNet p h :: (os.take i).map lineOrd).map V.str)))
      ⟨⟨_, _, _, _, _, rfl⟩, rfl⟩ (fun i σ H' _ ⟨_, e⟩ => by rw [e]; exact SqT.of (same_upd nL _ _ ht)) ?_ ?_
    · rintro i v σ H1 hi ⟨⟨x2, x3, x4, x5, x6, rfl⟩, rfl⟩
      have hl := hP.length
      have lt : i < os.length := by rw [← hl]; exact (List.getElem?_eq_some_iff.mp hi).1
      have ei := List.getElem?_eq_getElem lt
      obtain ⟨v', hv', u, ev, hu⟩ := Paired.get? (i := i) hP ei
      obtain rfl : v' = v := Option.some.inj (hv'.symm.trans hi)
      subst ev
      have hmem := List.mem_of_getElem? ei
      generalize os[i] = o at ei hu hmem
      obtain ⟨b1, b2, b3, b4, b5⟩ := od_le nok hmem
      have c1 := (nT_ok b1).2.2.1
      have c2 := (nT_ok b2).2.2.1
      have c3 := (nT_ok b3).2.2.1
      have c4 := (nT_ok b4).2.2.1
      have c5 := (nT_ok b5).2.2.1
      have sL := same_upd (o := HO.lst ((lineNet p h :: (os.take i).map lineOrd).map V.str)) nL
      refine ⟨u, _, rfl, SqT.of (sL _ _ hu), rfl, _, _, rfl, _, _, rfl, _, _, rfl, _, _, rfl, _, _, rfl, rfl, ?_⟩
      refine ⟨_, rfl, .inl ⟨rfl, _, SqL.of upd_same⟩, ?_⟩
      refine ⟨_, rfl, by rw [len_ord6, sizeLine_eq]; omega, _, rfl, .inr ⟨_, rfl, log_small b1, nT o.s, rfl, by rw [len_app, len_ord6, sizeLine_eq]; omega, _, rfl, by rw [len_app, len_app, len_ord6, len_sp, sizeLine_eq]; omega, ?_⟩⟩
      refine ⟨_, rfl, .inr ⟨_, rfl, log_small b2, nT o.t, rfl, by rw [len_app, len_app, len_app, len_ord6, len_sp, sizeLine_eq]; omega, _, rfl, by rw [len_app, len_app, len_app, len_app, len_ord6, len_sp, sizeLine_eq]; omega, ?_⟩⟩
      refine ⟨_, rfl, .inr ⟨_, rfl, log_small b3, nT o.f, rfl, by rw [len_app, len_app, len_app, len_app, len_app, len_ord6, len_sp, sizeLine_eq]; omega, _, rfl, by rw [len_app, len_app, len_app, len_app, len_app, len_app, len_ord6, len_sp, sizeLine_eq]; omega, ?_⟩⟩
      refine ⟨_, rfl, .inr ⟨_, rfl, log_small b4, nT o.n, rfl, by rw [len_app, len_app, len_app, len_app, len_app, len_app, len_app, len_ord6, len_sp, sizeLine_eq]; omega, _, rfl, by rw [len_app, len_app, len_app, len_app, len_app, len_app, len_app, len_app, len_ord6, len_sp, sizeLine_eq]; omega, ?_⟩⟩
      refine ⟨_, rfl, .inr ⟨_, rfl, log_small b5, nT o.e, rfl, by rw [len_app, len_app, len_app, len_app, len_app, len_app, len_app, len_app, len_app, len_ord6, len_sp, sizeLine_eq]; omega, ?_⟩⟩
      refine ⟨L, _, _, rfl, rfl, upd_same, ?_, ⟨_, _, _, _, _, rfl⟩, ?_⟩
      · rw [List.length_map, List.length_cons, List.length_map, List.length_take]
        exact small1000 (by omega)
      · rw [upd_upd, List.take_add_one, ei]
        have e2 : ((((((((((Str.empty ++ "order " : Str) ++ nT o.s) ++ " ") ++ nT o.t) ++ " ") ++ nT o.f) ++ " ") ++ nT o.n) ++ " ") ++ nT o.e) = lineOrd o := by
          unfold lineOrd wordsO
          rw [join6, cat_order]
        show upd H L (.lst (((lineNet p h :: (os.take i).map lineOrd).map V.str) ++ [V.str ((((((((((Str.empty ++ "order " : Str) ++ nT o.s) ++ " ") ++ nT o.t) ++ " ") ++ nT o.f) ++ " ") ++ nT o.n) ++ " ") ++ nT o.e)])) = _
        rw [e2, Option.toList_some, List.map_append, List.map_cons, List.map_cons, List.map_append]
        rfl
    · rintro σ H1 ⟨⟨x2, x3, x4, x5, x6, rfl⟩, rfl⟩
      rw [hP.length, List.take_length]
      refine ⟨⟨_, rfl⟩, _, rfl, "\n", L, linesOf p h os, rfl, rfl, .inl (SqL.of upd_same), ?_, q _ (same_upd nL)⟩
      have h1 := lines_sum nok
      have h2 : ("\n" : Str).length = 1 := by decide +kernel
      have h3 : (linesOf p h os).length ≤ 21 := by
        show (os.map lineOrd).length.succ ≤ 21
        rw [List.length_map]
        omega
      rw [h2]
      omega
end
abbrev s_check_index : Stmt := top 21
abbrev N_check_index : List Str := ["orders", "index"]
abbrev P_check_index : List Str := ["orders", "index"]
theorem sc_check_index : FnScope N_check_index P_check_index (defScope s_check_index) := ⟨rfl, rfl, rfl, by decide +kernel, rfl, by decide +kernel, by decide +kernel⟩
def spChkIx : Sp := fun vs H Q _ => ∃ (t : Addr) (k : Nat) (ts : List V), vs = [.ref t, .int k] ∧ H t = some (.tup ts) ∧ k < ts.length ∧ Q .non H
section
variable {P : Program} {w : World} {K : PySem.W.Frag} {mg : Str → Option Value} {base : Heap}
theorem ok_chk_ix {f : Addr} {fd : FuncData} (F : Fun K "check_index" "check_index" s_check_index f fd) (B : Blt mg) (DW : Df P w K mg base "is_within" 2 P_is_within (spWithin K)) : FnOk P w K mg base CX0 3 f fd P_check_index spChkIx := by
  obtain ⟨fW, fdW, gW, kW, bW, GW⟩ := DW
  refine F.ok sc_check_index (fun vs H Q E h => ?_) (fun cdv A outer s H vs Q E hr h => ?_)
  · obtain ⟨t, k, ts, rfl, _⟩ := h
    rfl
  · obtain ⟨t, k, ts, rfl, ht, hk, q⟩ := h
    refine ⟨_, pss_one (ps_if (pt_not (pt_val (pe_call GW hr (by rfl) gW kW bW .nil pass0 (pa_cons (pv 1) (pa_cons pe_int (pa_cons (pe_op op_sub (pe_callB call_len_seq (by rfl) B.len PySem.boot_len (pa_cons (pv 0) pa_nil)) pe_int) pa_nil)))))) (pss_one ps_never) pss_nil), ?_⟩
    have e1 : ((ts.length : Int) - 1) = ((ts.length - 1 : Nat) : Int) := by omega
    refine ⟨_, rfl, _, rfl, t, _, rfl, .inr (SqT.of ht), _, _, rfl, rfl, _, 0, ((ts.length - 1 : Nat) : Int), congrArg (fun z : Int => [V.int (k : Nat), V.int 0, V.int z]) e1, .int, _, rfl, ?_⟩
    rw [show withinB (.int (k : Nat)) 0 ((ts.length - 1 : Nat) : Int) = true from within_nat (lo := 0) (by omega) (by omega)]
    exact iteF q
end
abbrev s_Office_init : Stmt := inClass (top 35) 0
abbrev N_Office_init : List Str := ["self", "net"]
abbrev P_Office_init : List Str := ["self", "net"]
theorem sc_Office_init : FnScope N_Office_init P_Office_init (defScope s_Office_init) := ⟨rfl, rfl, rfl, by decide +kernel, rfl, by decide +kernel, by decide +kernel⟩
abbrev s_Office_present_orders : Stmt := inClass (top 35) 7
abbrev N_Office_present_orders : List Str := ["self"]
abbrev P_Office_present_orders : List Str := ["self"]
theorem sc_Office_present_orders : FnScope N_Office_present_orders P_Office_present_orders (defScope s_Office_present_orders) := ⟨rfl, rfl, rfl, by decide +kernel, rfl, by decide +kernel, by decide +kernel⟩
abbrev s_Office_take_step : Stmt := inClass (top 35) 13
abbrev N_Office_take_step : List Str := ["self", "word", "orders"]
abbrev P_Office_take_step : List Str := ["self", "word", "orders"]
theorem sc_Office_take_step : FnScope N_Office_take_step P_Office_take_step (defScope s_Office_take_step) := ⟨rfl, rfl, rfl, by decide +kernel, rfl, by decide +kernel, by decide +kernel⟩
/-! ### an office: its state, its present orders, a step -/
structure OffT (K : PySem.W.Frag) (O : Addr) : Prop where
  cl : Cls K O
  nN : NoAttr K O "net"
  nS : NoAttr K O "steps"
  nE : NoAttr K O "effective"
  nP : NoAttr K O "snapshots"
theorem sSN : ¬ ("steps" : Str) = "net" := by decide +kernel
theorem sEN : ¬ ("effective" : Str) = "net" := by decide +kernel
theorem sPN : ¬ ("snapshots" : Str) = "net" := by decide +kernel
theorem sES : ¬ ("effective" : Str) = "steps" := by decide +kernel
theorem sPS : ¬ ("snapshots" : Str) = "steps" := by decide +kernel
theorem sPE : ¬ ("snapshots" : Str) = "effective" := by decide +kernel
theorem put_len {f : Str} {v w : V} : ∀ {fs : List (Str × V)}, fs.lookup f = some w → (putF f v fs).length = fs.length
  | [], h => by cases h
  | (g, x) :: r, h => by
    by_cases e : g = f
    · subst e
      show (if g = g then _ else _ : List (Str × V)).length = _
      rw [if_pos rfl]
      rfl
    · show (if g = f then _ else _ : List (Str × V)).length = _
      rw [if_neg e]
      have hb : (f == g) = false := beq_eq_false_iff_ne.mpr (Ne.symm e)
      rw [List.lookup_cons, hb] at h
      show (putF f v r).length + 1 = _
      rw [put_len h]
      rfl
structure OfR (fs : List (Str × V)) (x u : Addr) (e : Nat) (sn : Addr) : Prop where
  len : fs.length ≤ 4
  net : fs.lookup ("net" : Str) = some (.ref x)
  st : fs.lookup ("steps" : Str) = some (.ref u)
  ef : fs.lookup ("effective" : Str) = some (.int e)
  sn : fs.lookup ("snapshots" : Str) = some (.ref sn)
  no : ∀ m : Str, ¬ m = "net" → ¬ m = "steps" → ¬ m = "effective" → ¬ m = "snapshots" → fs.lookup m = none
theorem OfR.setS {fs : List (Str × V)} {x u u' : Addr} {e : Nat} {sn : Addr} (R : OfR fs x u e sn) : OfR (putF "steps" (.ref u') fs) x u' e sn :=
  ⟨by rw [put_len R.st]; exact R.len, by rw [lookup_putF, if_neg (Ne.symm sSN)]; exact R.net, by rw [lookup_putF, if_pos rfl], by rw [lookup_putF, if_neg sES]; exact R.ef, by rw [lookup_putF, if_neg sPS]; exact R.sn,
   fun m a b c d => by rw [lookup_putF, if_neg b]; exact R.no m a b c d⟩
theorem OfR.setE {fs : List (Str × V)} {x u : Addr} {e e' : Nat} {sn : Addr} (R : OfR fs x u e sn) : OfR (putF "effective" (.int e') fs) x u e' sn :=
  ⟨by rw [put_len R.ef]; exact R.len, by rw [lookup_putF, if_neg (Ne.symm sEN)]; exact R.net, by rw [lookup_putF, if_neg (Ne.symm sES)]; exact R.st, by rw [lookup_putF, if_pos rfl], by rw [lookup_putF, if_neg sPE]; exact R.sn,
   fun m a b c d => by rw [lookup_putF, if_neg c]; exact R.no m a b c d⟩
theorem ofr_new {x u sn : Addr} : OfR (putF "snapshots" (.ref sn) (putF "effective" (.int (0 : Nat)) (putF "steps" (.ref u) (putF "net" (.ref x) [])))) x u 0 sn := by
  have l1 : ∀ (f : Str) (v : V) (fs : List (Str × V)), (putF f v fs).length ≤ fs.length + 1 := fun f v fs => length_putF f v fs
  refine ⟨?_, ?_, ?_, ?_, ?_, fun m a b c d => ?_⟩
  · have a1 := l1 "snapshots" (.ref sn) (putF "effective" (.int (0 : Nat)) (putF "steps" (.ref u) (putF "net" (.ref x) [])))
    have a2 := l1 "effective" (.int (0 : Nat)) (putF "steps" (.ref u) (putF "net" (.ref x) []))
    have a3 := l1 "steps" (.ref u) (putF "net" (.ref x) [])
    have a4 : (putF "net" (V.ref x) []).length = 1 := rfl
    omega
  · rw [lookup_putF, if_neg (Ne.symm sPN), lookup_putF, if_neg (Ne.symm sEN), lookup_putF, if_neg (Ne.symm sSN), lookup_putF, if_pos rfl]
  · rw [lookup_putF, if_neg (Ne.symm sPS), lookup_putF, if_neg (Ne.symm sES), lookup_putF, if_pos rfl]
  · rw [lookup_putF, if_neg (Ne.symm sPE), lookup_putF, if_pos rfl]
  · rw [lookup_putF, if_pos rfl]
  · rw [lookup_putF, if_neg d, lookup_putF, if_neg c, lookup_putF, if_neg b, lookup_putF, if_neg a]
    rfl
abbrev Stp := Str × List Od
def StepV (H : Hp) (v : V) (s : Stp) : Prop := ∃ a t, v = .ref a ∧ H a = some (.tup [.str s.1, .ref t]) ∧ OrdsTup H t s.2
theorem StepV.keep {H H' : Hp} {v : V} {s : Stp} (k : TupKeep H H') (h : StepV H v s) : StepV H' v s := by
  obtain ⟨a, t, rfl, ha, ho⟩ := h
  exact ⟨a, t, rfl, k _ _ ha, ho.keep k⟩
/-- the orders in effect -/
def curO (os : List Od) (st : List Stp) (e : Nat) : List Od := if e = 0 then os else ((st[e - 1]?).map (·.2)).getD os
structure OffS where
  x : Addr
  t : Addr
  p : Nat
  h : Nat
  os : List Od
  F : List Addr
  st : List Stp
  e : Nat
  sn : Addr
def OffS.cur (S : OffS) : List Od := curO S.os S.st S.e
def OffAt (O C : Addr) (H : Hp) (o : Addr) (S : OffS) : Prop := ∃ dx fs u vs, H o = some (.ins O dx fs) ∧ OfR fs S.x u S.e S.sn ∧ H u = some (.tup vs) ∧ Paired (StepV H) vs S.st ∧ S.e ≤ S.st.length ∧ NetAt C H S.x S.p S.h S.os S.t S.F ∧ o ∉ S.F
theorem tk_ins {H H' : Hp} {o O dx : Addr} {fs : List (Str × V)} (b : But o H H') (h : H o = some (.ins O dx fs)) : TupKeep H H' := fun a xs e => b a _ (ne_of e h (by intro z; cases z)) e
theorem OffAt.same {O C : Addr} {H H' : Hp} {o : Addr} {S : OffS} (A : OffAt O C H o S) (s : Same H H') : OffAt O C H' o S := by
  obtain ⟨dx, fs, u, vs, h1, R, h2, hP, h3, N, h4⟩ := A
  exact ⟨dx, fs, u, vs, s _ _ h1, R, s _ _ h2, Paired.mapP hP fun _ _ z => z.keep (tk_of s), h3, N.same s, h4⟩
theorem OffAt.but {O C : Addr} {H H' : Hp} {o d : Addr} {S : OffS} (A : OffAt O C H o S) (b : But d H H') (k : TupKeep H H') (n1 : o ≠ d) (n2 : d ∉ S.F) : OffAt O C H' o S := by
  obtain ⟨dx, fs, u, vs, h1, R, h2, hP, h3, N, h4⟩ := A
  exact ⟨dx, fs, u, vs, b _ _ n1 h1, R, k _ _ h2, Paired.mapP hP fun _ _ z => z.keep k, h3, N.but b k n2, h4⟩
def spOInit (O C : Addr) : Sp := fun vs H Q _ => ∃ (o dx x t : Addr) (p h : Nat) (os : List Od) (F : List Addr) (H0 : Hp), vs = [.ref o, .ref x] ∧ NetAt C H0 x p h os t F ∧ Same H0 H ∧ H0 o = none ∧ H o = some (.ins O dx []) ∧
  ∀ H' sn, Same H0 H' → OffAt O C H' o ⟨x, t, p, h, os, F, [], 0, sn⟩ → Q .non H'
def spPres (O C : Addr) : Sp := fun vs H Q _ => ∃ (o : Addr) (S : OffS), vs = [.ref o] ∧ OffAt O C H o S ∧ ∀ t', OrdsTup H t' S.cur → Q (.ref t') H
def spTake (O C : Addr) : Sp := fun vs H Q _ => ∃ (o t' : Addr) (w : Str) (os' : List Od) (S : OffS), vs = [.ref o, .str w, .ref t'] ∧ OffAt O C H o S ∧ S.st.length ≤ 900 ∧ OrdsTup H t' os' ∧
  ∀ H', But o H H' → OffAt O C H' o { S with st := S.st.take S.e ++ [(w, os')], e := S.e + 1 } → Q .non H'
section
variable {P : Program} {w : World} {K : PySem.W.Frag} {mg : Str → Option Value} {base : Heap}
theorem ok_off_init {f O C : Addr} {fd : FuncData} (F : Fun K "__init__" "Office.__init__" s_Office_init f fd) (T : OffT K O) : FnOk P w K mg base CX0 1 f fd P_Office_init (spOInit O C) := by
  refine F.ok sc_Office_init (fun vs H Q E h => ?_) (fun cdv A outer s H vs Q E hr h => ?_)
  · obtain ⟨o, dx, x, t, p, h, os, F, H0, rfl, _⟩ := h
    rfl
  · obtain ⟨o, dx, x, t, p, h, os, F, H0, rfl, Nt, s0, o0, ho, q⟩ := h
    refine ⟨_, pss_cons (ps_fld (pv 0) (pv 1) rfl) (pss_cons (ps_fld (pv 0) (pe_tup pa_nil) rfl) (pss_cons (ps_fld (pv 0) pe_int rfl) (pss_one (ps_fld (pv 0) pe_dnewK rfl)))), ?_⟩
    refine ⟨_, rfl, _, rfl, o, O, dx, [], rfl, ho, T.cl, T.nN, (by show 0 < 1000; decide), ?_⟩
    refine ⟨(by show 0 ≤ sizeLine; decide), fun u nu => ⟨_, rfl, o, O, dx, putF "net" (.ref x) [], rfl, ?_, T.cl, T.nS, (by show 1 < 1000; decide), ?_⟩⟩
    · rw [upd_ne (fun z => by rw [← z, upd_same] at nu; cases nu), upd_same]
    have nou : o ≠ u := fun z => by
      rw [← z, upd_same] at nu
      cases nu
    have nuH : H u = none := by
      rw [upd_ne (Ne.symm nou)] at nu
      exact nu
    have l1 : (putF "steps" (V.ref u) (putF "net" (V.ref x) [])).length ≤ 2 := length_putF "steps" (V.ref u) (putF "net" (V.ref x) [])
    refine ⟨_, rfl, o, O, dx, _, rfl, upd_same, T.cl, T.nE, by omega, ?_⟩
    have l2 : (putF "effective" (V.int 0) (putF "steps" (V.ref u) (putF "net" (V.ref x) []))).length ≤ 3 := Nat.le_trans (length_putF "effective" (V.int 0) (putF "steps" (V.ref u) (putF "net" (V.ref x) []))) (by omega)
    refine fun d nd => ⟨_, rfl, o, O, dx, _, rfl, (upd_ne (fun z => by rw [← z, upd_same] at nd; cases nd)).trans upd_same, T.cl, T.nP, by omega, ?_⟩
    have nod : o ≠ d := fun z => by
      rw [← z, upd_same] at nd
      cases nd
    have nud : u ≠ d := fun z => by
      rw [← z, upd_ne (Ne.symm nou), upd_ne (Ne.symm nou), upd_same] at nd
      cases nd
    have ndH : H d = none := by
      rw [upd_ne (Ne.symm nod), upd_ne (Ne.symm nod), upd_ne (Ne.symm nud), upd_ne (Ne.symm nod)] at nd
      exact nd
    refine q _ d ?_ ?_
    · intro b z e
      have e1 := s0 _ _ e
      have b1 : b ≠ o := ne_of_none e o0
      rw [upd_ne b1, upd_ne (ne_of_none e1 ndH), upd_ne b1, upd_ne b1, upd_ne (ne_of_none e1 nuH), upd_ne b1]
      exact e1
    · refine ⟨dx, _, u, [], upd_same, ofr_new, ?_, .nil, Nat.le_refl _, Nt.same ?_, Nt.new o0⟩
      · rw [upd_ne (Ne.symm nou), upd_ne nud, upd_ne (Ne.symm nou), upd_ne (Ne.symm nou), upd_same]
      · intro b z e
        have e1 := s0 _ _ e
        have b1 : b ≠ o := ne_of_none e o0
        rw [upd_ne b1, upd_ne (ne_of_none e1 ndH), upd_ne b1, upd_ne b1, upd_ne (ne_of_none e1 nuH), upd_ne b1]
        exact e1
theorem ok_pres {f O C : Addr} {fd : FuncData} (F : Fun K "present_orders" "Office.present_orders" s_Office_present_orders f fd) (T : OffT K O) (TN : NetT K C) : FnOk P w K mg base CX0 1 f fd P_Office_present_orders (spPres O C) := by
  refine F.ok sc_Office_present_orders (fun vs H Q E h => ?_) (fun cdv A outer s H vs Q E hr h => ?_)
  · obtain ⟨o, S, rfl, _⟩ := h
    rfl
  · obtain ⟨o, S, rfl, ⟨dx, fs, u, vs, ho, R, hu, hP, he, N, no⟩, q⟩ := h
    refine ⟨_, pss_cons (ps_if (pt_cmpR op_eq (pe_fld (pv 0) rfl) pe_int (nomark _)) (pss_one (ps_ret (pe_fld (pe_fld (pv 0) rfl) rfl))) pss_nil)
      (pss_one (ps_ret (pe_ix ix_tup (pe_ix ix_tup (pe_fld (pv 0) rfl) (pe_op op_sub (pe_fld (pv 0) rfl) pe_int) (fun _ _ => rfl)) pe_int (fun _ _ => rfl)))), ?_⟩
    obtain ⟨dx2, fl, as, _, hx, hO, _⟩ := id N
    refine ⟨_, rfl, o, O, dx, fs, _, rfl, ho, T.cl, T.nE, R.ef, rfl, _, rfl, ite2 (fun c => ?_) (fun c => ?_)⟩
    · have e0 : S.e = 0 := by
        have := V.int.inj (of_decide_eq_true c)
        omega
      refine ⟨_, rfl, o, O, dx, fs, _, rfl, ho, T.cl, T.nN, R.net, S.x, C, dx2, _, _, rfl, hx, TN.cl, TN.nO, nf_or, q S.t ?_⟩
      unfold OffS.cur curO
      rw [if_pos e0]
      exact hO
    · have e1 : S.e ≠ 0 := fun z => c (decide_eq_true (by rw [z]; rfl))
      have lt : S.e - 1 < S.st.length := by omega
      have es := List.getElem?_eq_getElem lt
      obtain ⟨v, hv, a, t', rfl, ha, ho'⟩ := Paired.get? (i := S.e - 1) hP es
      have ee : ((S.e : Int) - 1) = ((S.e - 1 : Nat) : Int) := by omega
      refine ⟨_, rfl, o, O, dx, fs, _, rfl, ho, T.cl, T.nS, R.st, _, rfl, o, O, dx, fs, _, rfl, ho, T.cl, T.nE, R.ef, _, _, rfl, rfl, u, vs, ((S.e - 1 : Nat) : Int), _, rfl, congrArg V.int ee, SqT.of hu, atI_nat (j := S.e - 1) hv, ?_⟩
      refine ⟨a, _, 1, _, rfl, rfl, SqT.of ha, atI_nat (j := 1) rfl, q t' ?_⟩
      unfold OffS.cur curO
      rw [if_neg e1, es]
      exact ho'
theorem ok_take {f O C : Addr} {fd : FuncData} (F : Fun K "take_step" "Office.take_step" s_Office_take_step f fd) (T : OffT K O) : FnOk P w K mg base CX0 1 f fd P_Office_take_step (spTake O C) := by
  refine F.ok sc_Office_take_step (fun vs H Q E h => ?_) (fun cdv A outer s H vs Q E hr h => ?_)
  · obtain ⟨o, t', w, os', S, rfl, _⟩ := h
    rfl
  · obtain ⟨o, t', w', os', S, rfl, ⟨dx, fs, u, vs, ho, R, hu, hP, he, N, no⟩, hl, hO, q⟩ := h
    refine ⟨_, pss_cons (ps_fld (pv 0) (pe_op op_catA (pe_slice sl_tupA (pe_fld (pv 0) rfl) po_none (po_some (pe_fld (pv 0) rfl))) (pe_tup (pa_cons (pe_tup (pa_cons (pv 1) (pa_cons (pv 2) pa_nil))) pa_nil))) rfl)
      (pss_one (ps_fldaug (pv 0) pe_int iop_add)), ?_⟩
    refine ⟨_, rfl, o, O, dx, fs, _, rfl, ho, T.cl, T.nS, R.st, _, rfl, o, O, dx, fs, _, rfl, ho, T.cl, T.nE, R.ef, (S.e : Nat), rfl, ?_⟩
    refine slA_case hu fun b1 H1 s1 hb1 => ?_
    rw [cut_to] at hb1
    refine ⟨_, rfl, _, rfl, (by show 2 ≤ sizeLine; decide), fun a1 na1 => ?_⟩
    have s2 := same_upd (o := HO.tup [.str w', .ref t']) na1
    have ha1 : (upd H1 a1 (.tup [.str w', .ref t'])) a1 = some (.tup [.str w', .ref t']) := upd_same
    have hb2 := s2 _ _ hb1
    generalize (upd H1 a1 (.tup [.str w', .ref t'])) = H2 at s2 ha1 hb2
    refine ⟨(by show 1 ≤ sizeLine; decide), fun a2 na2 => ?_⟩
    have s3 := same_upd (o := HO.tup [.ref a1]) na2
    have ha2 : (upd H2 a2 (.tup [.ref a1])) a2 = some (.tup [.ref a1]) := upd_same
    have hb3 := s3 _ _ hb2
    have ha13 := s3 _ _ ha1
    generalize (upd H2 a2 (.tup [.ref a1])) = H3 at s3 ha2 hb3 ha13
    have hlt : (vs.take S.e).length + 1 ≤ sizeLine := by
      rw [List.length_take, hP.length]
      exact Nat.le_of_lt (small1000 (by omega))
    refine catA_case hb3 ha2 hlt fun c H4 s4 hc => ?_
    have sA := s1.trans (s2.trans (s3.trans s4))
    have ho4 := sA _ _ ho
    refine ⟨_, rfl, o, O, dx, fs, rfl, ho4, T.cl, T.nS, by have := R.len; omega, ?_⟩
    refine ⟨_, rfl, o, O, dx, _, _, rfl, upd_same, T.cl, T.nE, R.setS.ef, _, _, rfl, rfl, dx, _, upd_same, by have := (R.setS (u' := c)).len; omega, ?_⟩
    rw [upd_upd]
    have R2 := (R.setS (u' := c)).setE (e' := S.e + 1)
    have bO : But o H (upd H4 o (.ins O dx (putF "effective" (.int ((S.e + 1 : Nat) : Int)) (putF "steps" (.ref c) fs)))) := fun b z n e => by
      rw [upd_ne n]
      exact sA _ _ e
    have k : TupKeep H4 (upd H4 o (.ins O dx (putF "effective" (.int ((S.e + 1 : Nat) : Int)) (putF "steps" (.ref c) fs)))) := fun b xs e => by
      rw [upd_ne (ne_of e ho4 (by intro z; cases z))]
      exact e
    refine q _ bO ⟨dx, _, c, _, upd_same, R2, k _ _ hc, ?_, ?_, (N.same sA).but But.upd k no, no⟩
    · refine Paired.app (Paired.take (Paired.mapP hP fun _ _ z => (z.keep (tk_of sA)).keep k) S.e) (.cons ⟨a1, t', rfl, k _ _ (s4 _ _ ha13), (hO.keep (tk_of sA)).keep k⟩ .nil)
    · show S.e + 1 ≤ (S.st.take S.e ++ [(w', os')]).length
      rw [List.length_append, List.length_take, List.length_singleton]
      omega
end
abbrev s_Office_undo : Stmt := inClass (top 35) 5
abbrev N_Office_undo : List Str := ["self"]
abbrev P_Office_undo : List Str := ["self"]
theorem sc_Office_undo : FnScope N_Office_undo P_Office_undo (defScope s_Office_undo) := ⟨rfl, rfl, rfl, by decide +kernel, rfl, by decide +kernel, by decide +kernel⟩
/-! ### undo -/
def spUndo (O C : Addr) : Sp := fun vs H Q _ => ∃ (o : Addr) (S : OffS), vs = [.ref o] ∧ OffAt O C H o S ∧ (S.e = 0 → Q (.bl false) H) ∧
  (S.e ≠ 0 → ∀ H', But o H H' → OffAt O C H' o { S with e := S.e - 1 } → Q (.bl true) H')
section
variable {P : Program} {w : World} {K : PySem.W.Frag} {mg : Str → Option Value} {base : Heap}
theorem ok_undo {f O C : Addr} {fd : FuncData} (F : Fun K "undo" "Office.undo" s_Office_undo f fd) (T : OffT K O) : FnOk P w K mg base CX0 1 f fd P_Office_undo (spUndo O C) := by
  refine F.ok sc_Office_undo (fun vs H Q E h => ?_) (fun cdv A outer s H vs Q E hr h => ?_)
  · obtain ⟨o, S, rfl, _⟩ := h
    rfl
  · obtain ⟨o, S, rfl, ⟨dx, fs, u, vs, ho, R, hu, hP, he, N, no⟩, q0, q1⟩ := h
    refine ⟨_, pss_cons (ps_if (pt_cmpR op_eq (pe_fld (pv 0) rfl) pe_int (nomark _)) (pss_one (ps_ret pe_bl)) pss_nil)
      (pss_cons (ps_fldaug (pv 0) pe_int iop_sub)
      (pss_one (ps_ret pe_bl))), ?_⟩
    refine ⟨_, rfl, o, O, dx, fs, _, rfl, ho, T.cl, T.nE, R.ef, rfl, _, rfl, ite2 (fun c => ?_) (fun c => ?_)⟩
    · refine q0 ?_
      have := V.int.inj (of_decide_eq_true c)
      omega
    · have e1 : S.e ≠ 0 := fun z => c (decide_eq_true (by rw [z]; rfl))
      have ee : ((S.e : Int) - 1) = ((S.e - 1 : Nat) : Int) := by omega
      refine ⟨_, rfl, o, O, dx, fs, _, rfl, ho, T.cl, T.nE, R.ef, _, _, rfl, rfl, dx, fs, ho, by have := R.len; omega, ?_⟩
      have R2 := R.setE (e' := S.e - 1)
      rw [← ee] at R2
      have k : TupKeep H (upd H o (.ins O dx (putF "effective" (.int ((S.e : Int) - 1)) fs))) := fun b xs e => by
        rw [upd_ne (ne_of e ho (by intro z; cases z))]
        exact e
      rw [ee] at R2
      refine q1 e1 _ But.upd ?_
      have R3 := R.setE (e' := S.e - 1)
      refine ⟨dx, (putF "effective" (.int ((S.e : Int) - 1)) fs), u, vs, upd_same, by rw [ee]; exact R3, k _ _ hu, Paired.mapP hP fun _ _ z => z.keep k, ?_, N.but But.upd k no, no⟩
      show S.e - 1 ≤ S.st.length
      omega
end
abbrev s_Office_cancel : Stmt := inClass (top 35) 2
abbrev N_Office_cancel : List Str := ["self", "index", "orders"]
abbrev P_Office_cancel : List Str := ["self", "index"]
theorem sc_Office_cancel : FnScope N_Office_cancel P_Office_cancel (defScope s_Office_cancel) := ⟨rfl, rfl, rfl, by decide +kernel, rfl, by decide +kernel, by decide +kernel⟩
/-! ### cancel -/
def spCancel (O C : Addr) : Sp := fun vs H Q _ => ∃ (o : Addr) (k : Nat) (S : OffS), vs = [.ref o, .int k] ∧ OffAt O C H o S ∧ S.st.length ≤ 900 ∧ k < S.cur.length ∧ S.cur.length ≤ 20 ∧
  ∀ H' v od, But o H H' → S.cur[k]? = some od → OrdAt H' v od → OffAt O C H' o { S with st := S.st.take S.e ++ [(("cancel" : Str), wo S.cur k)], e := S.e + 1 } → Q v H'
section
variable {P : Program} {w : World} {K : PySem.W.Frag} {mg : Str → Option Value} {base : Heap}
theorem ok_cancel {f O C pP fP fT : Addr} {fd fdP fdT : FuncData} (F : Fun K "cancel" "Office.cancel" s_Office_cancel f fd) (T : OffT K O) (pO : PropOf K O "present_orders" pP fP) (GP : FnOk P w K mg base CX0 1 fP fdP P_Office_present_orders (spPres O C)) (bP : Binds K fdP P_Office_present_orders [])
    (mT : Meth K O "take_step" fT) (GT : FnOk P w K mg base CX0 1 fT fdT P_Office_take_step (spTake O C)) (bT : Binds K fdT P_Office_take_step [])
    (DI : Df P w K mg base "check_index" 3 P_check_index spChkIx) (DO : Df P w K mg base "without_order" 1 P_without_order spWo) : FnOk P w K mg base CX0 4 f fd P_Office_cancel (spCancel O C) := by
  obtain ⟨fI, fdI, gI, kI, bI, GI⟩ := DI
  obtain ⟨fO, fdO, gO, kO, bO, GO⟩ := DO
  refine F.ok sc_Office_cancel (fun vs H Q E h => ?_) (fun cdv A outer s H vs Q E hr h => ?_)
  · obtain ⟨o, k, S, rfl, _⟩ := h
    rfl
  · obtain ⟨o, k, S, rfl, A, hl, hk, h20, q⟩ := h
    have hr1 : Room 1 _ := hr.mono (by decide)
    have hr2 : Room 2 _ := hr.mono (by decide)
    refine ⟨_, pss_cons (ps_set (i := 2) sc_Office_cancel.nd rfl (.inl rfl) (pe_prop (pv 0) T.cl pO GP hr2 bP .nil pass0 rfl))
      (pss_cons (ps_expr (pe_call GI hr (by rfl) gI kI bI .nil pass0 (pa_cons (pv 2) (pa_cons (pv 1) pa_nil))))
      (pss_cons (ps_expr (pe_meth (pv 0) T.cl mT GT hr1 bT .nil pass0 (pa_cons pe_str (pa_cons (pe_call GO hr1 (by rfl) gO kO bO .nil pass0 (pa_cons (pv 2) (pa_cons (pv 1) pa_nil))) pa_nil))))
      (pss_one (ps_ret (pe_ix ix_tup (pv 2) (pv 1) (fun _ _ => rfl)))))), ?_⟩
    obtain ⟨dx, fs, u, vs, ho, R, _⟩ := id A
    refine ⟨_, rfl, o, dx, fs, rfl, ho, o, S, rfl, A, fun t hO => ?_⟩
    obtain ⟨ts, ht, hP⟩ := id hO
    have tl := hP.length
    refine ⟨_, rfl, _, rfl, t, k, ts, rfl, ht, by omega, ?_⟩
    refine ⟨_, rfl, o, dx, fs, rfl, ho, R.no _ (by decide +kernel) (by decide +kernel) (by decide +kernel) (by decide +kernel), ?_⟩
    refine ⟨_, rfl, _, rfl, t, k, ts, rfl, ht, by omega, fun H1 c s1 hc => ?_⟩
    have hO1 := hO.keep (tk_of s1)
    refine ⟨o, c, _, wo S.cur k, S, rfl, A.same s1, hl, ⟨_, hc, Paired.app (Paired.take (OrdsAt.keep (tk_of s1) hP) k) (pair_drop (OrdsAt.keep (tk_of s1) hP) (k + 1))⟩, fun H2 b2 A2 => ?_⟩
    have ei := List.getElem?_eq_getElem hk
    obtain ⟨v, hv, hvo⟩ := Paired.get? (i := k) hP ei
    have kk := (tk_of s1)
    have k2 : TupKeep H1 H2 := tk_ins b2 (s1 _ _ ho)
    refine ⟨_, rfl, _, rfl, t, ts, k, v, rfl, rfl, SqT.of (k2 _ _ (kk _ _ ht)), atI_nat (j := k) hv, ?_⟩
    exact q H2 v _ (fun b z n e => b2 b z n (s1 _ _ e)) ei ((hvo.keep kk).keep k2) A2
end
abbrev s_Office_raise_order : Stmt := inClass (top 35) 4
abbrev N_Office_raise_order : List Str := ["self", "index", "orders"]
abbrev P_Office_raise_order : List Str := ["self", "index"]
theorem sc_Office_raise_order : FnScope N_Office_raise_order P_Office_raise_order (defScope s_Office_raise_order) := ⟨rfl, rfl, rfl, by decide +kernel, rfl, by decide +kernel, by decide +kernel⟩
/-! ### raise_order -/
def spRaise (O C : Addr) : Sp := fun vs H Q _ => ∃ (o : Addr) (k : Nat) (S : OffS), vs = [.ref o, .int k] ∧ OffAt O C H o S ∧ S.st.length ≤ 900 ∧ k < S.cur.length ∧ S.cur.length ≤ 20 ∧
  ∀ H' od, But o H H' → S.cur[k]? = some od → OffAt O C H' o { S with st := S.st.take S.e ++ [(("raise" : Str), od :: wo S.cur k)], e := S.e + 1 } → Q .non H'
section
variable {P : Program} {w : World} {K : PySem.W.Frag} {mg : Str → Option Value} {base : Heap}
theorem ok_raise {f O C pP fP fT : Addr} {fd fdP fdT : FuncData} (F : Fun K "raise_order" "Office.raise_order" s_Office_raise_order f fd) (T : OffT K O) (pO : PropOf K O "present_orders" pP fP) (GP : FnOk P w K mg base CX0 1 fP fdP P_Office_present_orders (spPres O C)) (bP : Binds K fdP P_Office_present_orders [])
    (mT : Meth K O "take_step" fT) (GT : FnOk P w K mg base CX0 1 fT fdT P_Office_take_step (spTake O C)) (bT : Binds K fdT P_Office_take_step [])
    (DI : Df P w K mg base "check_index" 3 P_check_index spChkIx) (DO : Df P w K mg base "without_order" 1 P_without_order spWo) : FnOk P w K mg base CX0 4 f fd P_Office_raise_order (spRaise O C) := by
  obtain ⟨fI, fdI, gI, kI, bI, GI⟩ := DI
  obtain ⟨fO, fdO, gO, kO, bO, GO⟩ := DO
  refine F.ok sc_Office_raise_order (fun vs H Q E h => ?_) (fun cdv A outer s H vs Q E hr h => ?_)
  · obtain ⟨o, k, S, rfl, _⟩ := h
    rfl
  · obtain ⟨o, k, S, rfl, A, hl, hk, h20, q⟩ := h
    have hr1 : Room 1 _ := hr.mono (by decide)
    have hr2 : Room 2 _ := hr.mono (by decide)
    refine ⟨_, pss_cons (ps_set (i := 2) sc_Office_raise_order.nd rfl (.inl rfl) (pe_prop (pv 0) T.cl pO GP hr2 bP .nil pass0 rfl))
      (pss_cons (ps_expr (pe_call GI hr (by rfl) gI kI bI .nil pass0 (pa_cons (pv 2) (pa_cons (pv 1) pa_nil))))
      (pss_one (ps_expr (pe_meth (pv 0) T.cl mT GT hr1 bT .nil pass0 (pa_cons pe_str (pa_cons (pe_op op_catA (pe_tup (pa_cons (pe_ix ix_tup (pv 2) (pv 1) (fun _ _ => rfl)) pa_nil)) (pe_call GO hr1 (by rfl) gO kO bO .nil pass0 (pa_cons (pv 2) (pa_cons (pv 1) pa_nil)))) pa_nil)))))), ?_⟩
    obtain ⟨dx, fs, u, vs, ho, R, _⟩ := id A
    refine ⟨_, rfl, o, dx, fs, rfl, ho, o, S, rfl, A, fun t hO => ?_⟩
    obtain ⟨ts, ht, hP⟩ := id hO
    have tl := hP.length
    have ei := List.getElem?_eq_getElem hk
    obtain ⟨v, hv, hvo⟩ := Paired.get? (i := k) hP ei
    refine ⟨_, rfl, _, rfl, t, k, ts, rfl, ht, by omega, ?_⟩
    refine ⟨_, rfl, o, dx, fs, rfl, ho, R.no _ (by decide +kernel) (by decide +kernel) (by decide +kernel) (by decide +kernel), ?_⟩
    refine ⟨_, rfl, _, rfl, t, ts, k, v, rfl, rfl, SqT.of ht, atI_nat (j := k) hv, (by show 1 ≤ sizeLine; decide), fun c1 n1 => ?_⟩
    have s1 := same_upd (o := HO.tup [v]) n1
    have hc1 : (upd H c1 (.tup [v])) c1 = some (.tup [v]) := upd_same
    generalize (upd H c1 (.tup [v])) = H1 at s1 hc1
    refine ⟨_, rfl, _, rfl, t, k, ts, rfl, s1 _ _ ht, by omega, fun H2 c2 s2 hc2 => ?_⟩
    refine catA_case (s2 _ _ hc1) hc2 (by rw [List.length_append, List.length_take, List.length_drop]; exact Nat.le_of_lt (small1000 (by show 1 + _ ≤ 1000; omega))) fun c H3 s3 hc => ?_
    have sA := s1.trans (s2.trans s3)
    refine ⟨o, c, _, _ :: wo S.cur k, S, rfl, A.same sA, hl, ⟨v :: (ts.take k ++ ts.drop (k + 1)), hc, .cons (hvo.keep (tk_of sA)) (Paired.app (Paired.take (OrdsAt.keep (tk_of sA) hP) k) (pair_drop (OrdsAt.keep (tk_of sA) hP) (k + 1)))⟩, fun H4 b4 A4 => ?_⟩
    exact q H4 _ (fun b z n e => b4 b z n (sA _ _ e)) ei A4
end
abbrev s_Office_redo : Stmt := inClass (top 35) 6
abbrev N_Office_redo : List Str := ["self"]
abbrev P_Office_redo : List Str := ["self"]
theorem sc_Office_redo : FnScope N_Office_redo P_Office_redo (defScope s_Office_redo) := ⟨rfl, rfl, rfl, by decide +kernel, rfl, by decide +kernel, by decide +kernel⟩
/-! ### redo -/
def spRedo (O C : Addr) : Sp := fun vs H Q _ => ∃ (o : Addr) (S : OffS), vs = [.ref o] ∧ OffAt O C H o S ∧ (S.e = S.st.length → Q (.bl false) H) ∧
  (S.e < S.st.length → ∀ H', But o H H' → OffAt O C H' o { S with e := S.e + 1 } → Q (.bl true) H')
section
variable {P : Program} {w : World} {K : PySem.W.Frag} {mg : Str → Option Value} {base : Heap}
theorem ok_redo {f O C : Addr} {fd : FuncData} (F : Fun K "redo" "Office.redo" s_Office_redo f fd) (B : Blt mg) (T : OffT K O) : FnOk P w K mg base CX0 1 f fd P_Office_redo (spRedo O C) := by
  refine F.ok sc_Office_redo (fun vs H Q E h => ?_) (fun cdv A outer s H vs Q E hr h => ?_)
  · obtain ⟨o, S, rfl, _⟩ := h
    rfl
  · obtain ⟨o, S, rfl, ⟨dx, fs, u, vs, ho, R, hu, hP, he, N, no⟩, q0, q1⟩ := h
    refine ⟨_, pss_cons (ps_if (pt_cmpR op_eq (pe_fld (pv 0) rfl) (pe_callB call_len_seq (by rfl) B.len PySem.boot_len (pa_cons (pe_fld (pv 0) rfl) pa_nil)) (nomark _)) (pss_one (ps_ret pe_bl)) pss_nil)
      (pss_cons (ps_fldaug (pv 0) pe_int iop_add)
      (pss_one (ps_ret pe_bl))), ?_⟩
    have hl := hP.length
    refine ⟨_, rfl, o, O, dx, fs, _, rfl, ho, T.cl, T.nE, R.ef, _, rfl, o, O, dx, fs, _, rfl, ho, T.cl, T.nS, R.st, u, vs, rfl, .inr (SqT.of hu), rfl, _, rfl, ite2 (fun c => ?_) (fun c => ?_)⟩
    · refine q0 ?_
      have := V.int.inj (of_decide_eq_true c)
      omega
    · have e1 : S.e < S.st.length := by
        refine Nat.lt_of_le_of_ne he fun z => c (decide_eq_true (by rw [z, hl]))
      refine ⟨_, rfl, o, O, dx, fs, _, rfl, ho, T.cl, T.nE, R.ef, _, _, rfl, rfl, dx, fs, ho, by have := R.len; omega, ?_⟩
      have R2 := R.setE (e' := S.e + 1)
      have k : TupKeep H (upd H o (.ins O dx (putF "effective" (.int ((S.e : Int) + 1)) fs))) := fun b xs e => by
        rw [upd_ne (ne_of e ho (by intro z; cases z))]
        exact e
      refine q1 e1 _ But.upd ?_
      refine ⟨dx, (putF "effective" (.int ((S.e : Int) + 1)) fs), u, vs, upd_same, R2, k _ _ hu, Paired.mapP hP fun _ _ z => z.keep k, ?_, N.but But.upd k no, no⟩
      show S.e + 1 ≤ S.st.length
      omega
end
abbrev s_Office_add : Stmt := inClass (top 35) 1
abbrev N_Office_add : List Str := ["self", "order", "orders"]
abbrev P_Office_add : List Str := ["self", "order"]
theorem sc_Office_add : FnScope N_Office_add P_Office_add (defScope s_Office_add) := ⟨rfl, rfl, rfl, by decide +kernel, rfl, by decide +kernel, by decide +kernel⟩
/-! ### add, of an order of the net -/
def spAdd (O C : Addr) : Sp := fun vs H Q _ => ∃ (o : Addr) (v : V) (od : Od) (S : OffS), vs = [.ref o, v] ∧ OffAt O C H o S ∧ S.st.length ≤ 900 ∧ OrdAt H v od ∧ OdOk S.p S.h od ∧ S.cur.length < 20 ∧
  ∀ H', But o H H' → OffAt O C H' o { S with st := S.st.take S.e ++ [(("add" : Str), S.cur ++ [od])], e := S.e + 1 } → Q (.int S.cur.length) H'
section
variable {P : Program} {w : World} {K : PySem.W.Frag} {mg : Str → Option Value} {base : Heap}
theorem ok_add {f O C pP fP fT : Addr} {fd fdP fdT : FuncData} (F : Fun K "add" "Office.add" s_Office_add f fd) (B : Blt mg) (T : OffT K O) (TN : NetT K C) (pO : PropOf K O "present_orders" pP fP) (GP : FnOk P w K mg base CX0 1 fP fdP P_Office_present_orders (spPres O C)) (bP : Binds K fdP P_Office_present_orders [])
    (mT : Meth K O "take_step" fT) (GT : FnOk P w K mg base CX0 1 fT fdT P_Office_take_step (spTake O C)) (bT : Binds K fdT P_Office_take_step [])
    (DI : Df P w K mg base "is_order" 3 P_is_order (spIsOrder K)) (hM : ∃ t, mg "MOST_ORDERS" = some (.int 20 t)) : FnOk P w K mg base CX0 4 f fd P_Office_add (spAdd O C) := by
  obtain ⟨fI, fdI, gI, kI, bI, GI⟩ := DI
  obtain ⟨tM, hM⟩ := hM
  refine F.ok sc_Office_add (fun vs H Q E h => ?_) (fun cdv A outer s H vs Q E hr h => ?_)
  · obtain ⟨o, v, od, S, rfl, _⟩ := h
    rfl
  · obtain ⟨o, v, od, S, rfl, A, hl, hv, hod, h20, q⟩ := h
    have hr1 : Room 1 _ := hr.mono (by decide)
    have hr2 : Room 2 _ := hr.mono (by decide)
    refine ⟨_, pss_cons (ps_if (pt_not (pt_val (pe_call GI hr (by rfl) gI kI bI .nil pass0 (pa_cons (pe_fld (pe_fld (pv 0) rfl) rfl) (pa_cons (pe_fld (pe_fld (pv 0) rfl) rfl) (pa_cons (pv 1) pa_nil)))))) (pss_one ps_never) pss_nil)
      (pss_cons (ps_set (i := 2) sc_Office_add.nd rfl (.inl rfl) (pe_prop (pv 0) T.cl pO GP hr2 bP .nil pass0 rfl))
      (pss_cons (ps_if (pt_cmpR op_eq (pe_callB call_len_seq (by rfl) B.len PySem.boot_len (pa_cons (pv 2) pa_nil)) (pe_glob (v := .int 20) rfl hM ⟨_, rfl⟩) (nomark _)) (pss_one ps_never) pss_nil)
      (pss_cons (ps_expr (pe_meth (pv 0) T.cl mT GT hr1 bT .nil pass0 (pa_cons pe_str (pa_cons (pe_op op_catA (pv 2) (pe_tup (pa_cons (pv 1) pa_nil))) pa_nil))))
      (pss_one (ps_ret (pe_callB call_len_seq (by rfl) B.len PySem.boot_len (pa_cons (pv 2) pa_nil))))))), ?_⟩
    obtain ⟨dx, fs, u, vs, ho, R, hu, hPv, he, N, no⟩ := id A
    obtain ⟨dxn, fl, as, _, hx, _⟩ := id N
    refine ⟨_, rfl, o, O, dx, fs, _, rfl, ho, T.cl, T.nN, R.net, S.x, C, dxn, _, _, rfl, hx, TN.cl, TN.nP, nf_pe, _, rfl, o, O, dx, fs, _, rfl, ho, T.cl, T.nN, R.net, S.x, C, dxn, _, _, rfl, hx, TN.cl, TN.nH, nf_ho, _, rfl, v, _, _, true, rfl, OrdAt.like hod hv, _, rfl, iteF ?_⟩
    refine ⟨_, rfl, o, dx, fs, rfl, ho, o, S, rfl, A, fun t hO => ?_⟩
    obtain ⟨ts, ht, hP⟩ := id hO
    have tl := hP.length
    refine ⟨_, rfl, t, ts, rfl, .inr (SqT.of ht), rfl, _, rfl, ?_⟩
    have e20 : decide (V.int ((ts.length : Nat) : Int) = V.int 20) = false := decide_eq_false fun z => by
      have := V.int.inj z
      omega
    rw [e20]
    refine iteF ⟨_, rfl, o, dx, fs, rfl, ho, R.no _ (by decide +kernel) (by decide +kernel) (by decide +kernel) (by decide +kernel), ?_⟩
    refine ⟨_, rfl, _, rfl, (by show 1 ≤ sizeLine; decide), fun u1 nu1 => ?_⟩
    have s1 := same_upd (o := HO.tup [v]) nu1
    refine catA_case (s1 _ _ ht) upd_same (Nat.le_of_lt (small1000 (by show ts.length + 1 ≤ _; omega))) fun c H2 s2 hc => ?_
    have s12 := s1.trans s2
    refine ⟨o, c, _, S.cur ++ [od], S, rfl, A.same s12, hl, ⟨_, hc, Paired.app (OrdsAt.keep (tk_of s12) hP) (.cons (hv.keep (tk_of s12)) .nil)⟩, fun H3 b3 A3 => ?_⟩
    have k3 : TupKeep H2 H3 := tk_ins b3 (s12 _ _ ho)
    refine ⟨_, rfl, t, ts, rfl, .inr (SqT.of (k3 _ _ (s12 _ _ ht))), ?_⟩
    rw [tl]
    exact q H3 (fun b z n e => b3 b z n (s12 _ _ e)) A3
end
abbrev s_Office_prolong : Stmt := inClass (top 35) 3
abbrev N_Office_prolong : List Str := ["self", "index", "days", "orders", "source", "target", "first", "former", "delay", "order"]
abbrev P_Office_prolong : List Str := ["self", "index", "days"]
theorem sc_Office_prolong : FnScope N_Office_prolong P_Office_prolong (defScope s_Office_prolong) := ⟨rfl, rfl, rfl, by decide +kernel, rfl, by decide +kernel, by decide +kernel⟩
abbrev s_Office_operations : Stmt := inClass (top 35) 8
abbrev N_Office_operations : List Str := ["self", "step"]
abbrev P_Office_operations : List Str := ["self"]
theorem sc_Office_operations : FnScope N_Office_operations P_Office_operations (defScope s_Office_operations) := ⟨rfl, rfl, rfl, by decide +kernel, rfl, by decide +kernel, by decide +kernel⟩
/-! ### prolong, by days that an order may have; the words of what is in effect -/
def proO (od : Od) (n : Nat) : Od := { od with n := n }
def setOd (os : List Od) (k : Nat) (od : Od) : List Od := os.take k ++ [od] ++ os.drop (k + 1)
def spProlong (O C : Addr) : Sp := fun vs H Q _ => ∃ (o : Addr) (k n : Nat) (od : Od) (S : OffS), vs = [.ref o, .int k, .int n] ∧ OffAt O C H o S ∧ S.st.length ≤ 900 ∧ S.cur[k]? = some od ∧ S.cur.length ≤ 20 ∧ OdOk S.p S.h (proO od n) ∧
  ∀ H', But o H H' → OffAt O C H' o { S with st := S.st.take S.e ++ [(("prolong" : Str), setOd S.cur k (proO od n))], e := S.e + 1 } → Q (.int od.n) H'
def spOps (O C : Addr) : Sp := fun vs H Q _ => ∃ (o : Addr) (S : OffS), vs = [.ref o] ∧ OffAt O C H o S ∧ S.st.length ≤ 900 ∧ ∀ H' r, Same H H' → H r = none → H' r = some (.lst ((S.st.take S.e).map fun s => V.str s.1)) → Q (.ref r) H'
theorem Paired.dropP {α β : Type} {F : α → β → Prop} : ∀ {xs : List α} {l : List β} (n : Nat), Paired F xs l → Paired F (xs.drop n) (l.drop n)
  | _, _, 0, q => q
  | _, _, _ + 1, .nil => .nil
  | _, _, n + 1, .cons _ t => Paired.dropP n t
section
variable {P : Program} {w : World} {K : PySem.W.Frag} {mg : Str → Option Value} {base : Heap}
theorem ok_prolong {f O C pP fP fT : Addr} {fd fdP fdT : FuncData} (F : Fun K "prolong" "Office.prolong" s_Office_prolong f fd) (B : Blt mg) (T : OffT K O) (TN : NetT K C) (pO : PropOf K O "present_orders" pP fP) (GP : FnOk P w K mg base CX0 1 fP fdP P_Office_present_orders (spPres O C)) (bP : Binds K fdP P_Office_present_orders [])
    (mT : Meth K O "take_step" fT) (GT : FnOk P w K mg base CX0 1 fT fdT P_Office_take_step (spTake O C)) (bT : Binds K fdT P_Office_take_step [])
    (DX : Df P w K mg base "check_index" 3 P_check_index spChkIx) (DI : Df P w K mg base "is_order" 3 P_is_order (spIsOrder K)) (DW : Df P w K mg base "with_order" 1 P_with_order spWith) : FnOk P w K mg base CX0 4 f fd P_Office_prolong (spProlong O C) := by
  obtain ⟨fX, fdX, gX, kX, bX, GX⟩ := DX
  obtain ⟨fI, fdI, gI, kI, bI, GI⟩ := DI
  obtain ⟨fW, fdW, gW, kW, bW, GW⟩ := DW
  refine F.ok sc_Office_prolong (fun vs H Q E h => ?_) (fun cdv A outer s H vs Q E hr h => ?_)
  · obtain ⟨o, k, n, od, S, rfl, _⟩ := h
    rfl
  · obtain ⟨o, k, n, od, S, rfl, A, hl, hk, h20, hod, q⟩ := h
    have hr1 : Room 1 _ := hr.mono (by decide)
    have hr2 : Room 2 _ := hr.mono (by decide)
    refine ⟨_, pss_cons (ps_set (i := 3) sc_Office_prolong.nd rfl (.inl rfl) (pe_prop (pv 0) T.cl pO GP hr2 bP .nil pass0 rfl))
      (pss_cons (ps_expr (pe_call GX hr (by rfl) gX kX bX .nil pass0 (pa_cons (pv 3) (pa_cons (pv 1) pa_nil))))
      (pss_cons (ps_asg (pe_ix ix_tup (pv 3) (pv 1) (fun _ _ => rfl)) (pg_tup (by rfl) (pgs_cons (pg_name (i := 4) sc_Office_prolong.nd rfl (.inl rfl)) (pgs_cons (pg_name (i := 5) sc_Office_prolong.nd rfl (.inl rfl)) (pgs_cons (pg_name (i := 6) sc_Office_prolong.nd rfl (.inl rfl)) (pgs_cons (pg_name (i := 7) sc_Office_prolong.nd rfl (.inl rfl)) (pgs_cons (pg_name (i := 8) sc_Office_prolong.nd rfl (.inl rfl)) pgs_nil)))))))
      (pss_cons (ps_set (i := 9) sc_Office_prolong.nd rfl (.inl rfl) (pe_tup (pa_cons (pv 4) (pa_cons (pv 5) (pa_cons (pv 6) (pa_cons (pv 2) (pa_cons (pv 8) pa_nil)))))))
      (pss_cons (ps_if (pt_not (pt_val (pe_call GI hr (by rfl) gI kI bI .nil pass0 (pa_cons (pe_fld (pe_fld (pv 0) rfl) rfl) (pa_cons (pe_fld (pe_fld (pv 0) rfl) rfl) (pa_cons (pv 9) pa_nil)))))) (pss_one ps_never) pss_nil)
      (pss_cons (ps_expr (pe_meth (pv 0) T.cl mT GT hr1 bT .nil pass0 (pa_cons pe_str (pa_cons (pe_call GW hr1 (by rfl) gW kW bW .nil pass0 (pa_cons (pv 3) (pa_cons (pv 1) (pa_cons (pv 9) pa_nil)))) pa_nil))))
      (pss_one (ps_ret (pv 7)))))))), ?_⟩
    obtain ⟨dx, fs, u, vs, ho, R, hu, hPv, he, N, no⟩ := id A
    obtain ⟨dxn, fl, as, _, hx, _⟩ := id N
    refine ⟨_, rfl, o, dx, fs, rfl, ho, o, S, rfl, A, fun t hO => ?_⟩
    obtain ⟨ts, ht, hP⟩ := id hO
    have tl := hP.length
    have lt : k < S.cur.length := (List.getElem?_eq_some_iff.mp hk).1
    refine ⟨_, rfl, _, rfl, t, k, ts, rfl, ht, by omega, ?_⟩
    obtain ⟨v, hv, u0, rfl, hu0⟩ := Paired.get? (i := k) hP hk
    refine ⟨_, rfl, _, rfl, t, ts, k, _, rfl, rfl, SqT.of ht, atI_nat (j := k) hv, ?_⟩
    refine ⟨u0, _, rfl, SqT.of hu0, rfl, _, _, rfl, _, _, rfl, _, _, rfl, _, _, rfl, _, _, rfl, rfl, ?_⟩
    refine ⟨_, rfl, _, rfl, _, rfl, _, rfl, _, rfl, (by show 5 ≤ sizeLine; decide), fun u1 nu1 => ?_⟩
    have s1 := same_upd (o := HO.tup [.int od.s, .int od.t, .int od.f, .int n, .int od.e]) nu1
    have hv1 : OrdAt (upd H u1 (.tup [.int od.s, .int od.t, .int od.f, .int n, .int od.e])) (.ref u1) (proO od n) := ⟨u1, rfl, upd_same⟩
    generalize (upd H u1 (.tup [.int od.s, .int od.t, .int od.f, .int n, .int od.e])) = H1 at s1 hv1
    refine ⟨_, rfl, o, O, dx, fs, _, rfl, s1 _ _ ho, T.cl, T.nN, R.net, S.x, C, dxn, _, _, rfl, s1 _ _ hx, TN.cl, TN.nP, nf_pe, _, rfl, o, O, dx, fs, _, rfl, s1 _ _ ho, T.cl, T.nN, R.net, S.x, C, dxn, _, _, rfl, s1 _ _ hx, TN.cl, TN.nH, nf_ho, _, rfl, _, _, _, true, rfl, OrdAt.like hod hv1, _, rfl, iteF ?_⟩
    refine ⟨_, rfl, o, dx, fs, rfl, s1 _ _ ho, R.no _ (by decide +kernel) (by decide +kernel) (by decide +kernel) (by decide +kernel), ?_⟩
    refine ⟨_, rfl, _, rfl, _, rfl, t, k, ts, _, rfl, s1 _ _ ht, by omega, fun H2 c s2 hc => ?_⟩
    have s12 := s1.trans s2
    refine ⟨o, c, _, setOd S.cur k (proO od n), S, rfl, A.same s12, hl, ⟨_, hc, Paired.app (Paired.app (Paired.take (OrdsAt.keep (tk_of s12) hP) k) (.cons (hv1.keep (tk_of s2)) .nil)) (Paired.dropP (k + 1) (OrdsAt.keep (tk_of s12) hP))⟩, fun H3 b3 A3 => ?_⟩
    exact ⟨_, rfl, q H3 (fun b z n e => b3 b z n (s12 _ _ e)) A3⟩
theorem ok_ops {f O C : Addr} {fd : FuncData} (F : Fun K "operations" "Office.operations" s_Office_operations f fd) (B : Blt mg) (T : OffT K O) : FnOk P w K mg base CX0 1 f fd P_Office_operations (spOps O C) := by
  refine F.ok sc_Office_operations (fun vs H Q E h => ?_) (fun cdv A outer s H vs Q E hr h => ?_)
  · obtain ⟨o, S, rfl, _⟩ := h
    rfl
  · obtain ⟨o, S, rfl, A, hl, q⟩ := h
    refine ⟨_, pss_one (ps_ret (pe_lc (own := [("step", 1)]) (g := gName 1) (tt := tYes) (te := tOp (rIxT K) (tVar 1) (tC (.int 0))) (by rfl) sc_Office_operations.nd (pi_tup (pe_slice sl_tupA (pe_fld (pv 0) rfl) po_none (po_some (pe_fld (pv 0) rfl)))) (blkOk_by (N := N_Office_operations) (sc := defScope s_Office_operations) (by decide +kernel))
      (fun _ _ _ _ _ => pg_name (i := 1) sc_Office_operations.nd rfl (.inl rfl)) (fun _ _ _ _ _ => pts_nil) (fun _ _ _ _ _ => pe_ix ix_tup (pv 1) pe_int (fun _ _ => rfl)))), ?_⟩
    obtain ⟨dx, fs, u, vs, ho, R, hu, hPv, he, N, no⟩ := id A
    refine ⟨_, rfl, o, O, dx, fs, _, rfl, ho, T.cl, T.nS, R.st, _, rfl, o, O, dx, fs, _, rfl, ho, T.cl, T.nE, R.ef, (S.e : Nat), rfl, ?_⟩
    refine slA_case (lo := none) (hi := some ((S.e : Nat) : Int)) hu fun b H1 s1 hb => ?_
    rw [cut_to] at hb
    have hP1 : Paired (StepV H1) (vs.take S.e) (S.st.take S.e) := Paired.take (Paired.mapP hPv fun _ _ z => z.keep (tk_of s1)) S.e
    refine ⟨b, rfl, ⟨_, SqT.of hb⟩, fun D nD => ?_⟩
    have pl := hP1.length
    refine lc_tup (K := K) (a := b) (xs := vs.take S.e) (fun k H' => H' = upd H1 D (.lst (((S.st.take S.e).take k).map fun s => V.str s.1))) rfl (fun k H' _ e => by rw [e]; exact SqT.of ((upd_ne (ne_of_none hb nD)).trans hb)) ?_ ?_
    · rintro k v H' hk rfl
      have lt : k < (S.st.take S.e).length := by rw [← pl]; exact (List.getElem?_eq_some_iff.mp hk).1
      have ek := List.getElem?_eq_getElem lt
      obtain ⟨v', hv', a, t, rfl, ha, _⟩ := Paired.get? (i := k) hP1 ek
      obtain rfl : _ = v := Option.some.inj (hv'.symm.trans hk)
      refine ⟨rfl, _, rfl, a, _, 0, _, rfl, rfl, SqT.of ((upd_ne (ne_of_none ha nD)).trans ha), atI_nat (j := 0) rfl, _, upd_same, ?_, ?_⟩
      · rw [List.length_map, List.length_take]
        have := List.length_take_le' S.e S.st
        exact small1000 (by omega)
      · rw [upd_upd, List.take_add_one, ek, List.map_append]
        rfl
    rintro H' rfl
    rw [pl, List.take_length]
    exact q _ D (s1.trans (same_upd nD)) (s1.free nD) upd_same
end
/-! ### one operation that an office can execute -/
inductive Opn where
  | add (od : Od)
  | cancel (k : Nat)
  | prolong (k n : Nat)
  | rais (k : Nat)
  | undo
  | redo
def OpnAt (H : Hp) (a : Addr) : Opn → Prop
  | .add od => ∃ v, H a = some (.tup [.str "add", v]) ∧ OrdAt H v od
  | .cancel k => H a = some (.tup [.str "cancel", .int k])
  | .prolong k n => H a = some (.tup [.str "prolong", .int k, .int n])
  | .rais k => H a = some (.tup [.str "raise", .int k])
  | .undo => H a = some (.tup [.str "undo"])
  | .redo => H a = some (.tup [.str "redo"])
def OpnOk (S : OffS) : Opn → Prop
  | .add od => OdOk S.p S.h od ∧ S.cur.length < 20
  | .cancel k => k < S.cur.length ∧ S.cur.length ≤ 20
  | .prolong k n => ∃ od, S.cur[k]? = some od ∧ S.cur.length ≤ 20 ∧ OdOk S.p S.h (proO od n)
  | .rais k => k < S.cur.length ∧ S.cur.length ≤ 20
  | .undo => True
  | .redo => True
def OffS.step (S : OffS) (w : Str) (os : List Od) : OffS := { S with st := S.st.take S.e ++ [(w, os)], e := S.e + 1 }
def nextO (S : OffS) : Opn → OffS
  | .add od => S.step "add" (S.cur ++ [od])
  | .cancel k => S.step "cancel" (wo S.cur k)
  | .prolong k n => S.step "prolong" (setOd S.cur k (proO ((S.cur[k]?).getD ⟨0, 0, 0, 0, 0⟩) n))
  | .rais k => S.step "raise" (((S.cur[k]?).getD ⟨0, 0, 0, 0, 0⟩) :: wo S.cur k)
  | .undo => { S with e := S.e - 1 }
  | .redo => { S with e := min (S.e + 1) S.st.length }
def ResO (H : Hp) (v : V) (S : OffS) : Opn → Prop
  | .add _ => v = .int S.cur.length
  | .cancel k => ∃ od, S.cur[k]? = some od ∧ OrdAt H v od
  | .prolong k _ => ∃ od, S.cur[k]? = some od ∧ v = .int od.n
  | .rais _ => v = .non
  | .undo => v = .bl (decide (S.e ≠ 0))
  | .redo => v = .bl (decide (S.e < S.st.length))
def spExec (O C : Addr) : Sp := fun vs H Q _ => ∃ (o a : Addr) (op : Opn) (S : OffS), vs = [.ref o, .ref a] ∧ OffAt O C H o S ∧ S.st.length ≤ 900 ∧ OpnAt H a op ∧ OpnOk S op ∧
  ∀ H' v, But o H H' → OffAt O C H' o (nextO S op) → ResO H' v S op → Q v H'
theorem str_eqT {x : Str} {A B : Prop} (h : A) : if decide (V.str x = V.str x) = true then A else B := by
  rw [decide_eq_true rfl]
  exact iteT h
theorem str_eqF {x y : Str} {A B : Prop} (n : ¬ x = y) (h : B) : if decide (V.str x = V.str y) = true then A else B := by
  rw [decide_eq_false (fun e => n (V.str.inj e))]
  exact iteF h
abbrev s_Office_execute : Stmt := inClass (top 35) 14
abbrev N_Office_execute : List Str := ["self", "operation", "word"]
abbrev P_Office_execute : List Str := ["self", "operation"]
theorem sc_Office_execute : FnScope N_Office_execute P_Office_execute (defScope s_Office_execute) := ⟨rfl, rfl, rfl, by decide +kernel, rfl, by decide +kernel, by decide +kernel⟩
section
variable {P : Program} {w : World} {K : PySem.W.Frag} {mg : Str → Option Value} {base : Heap}
theorem ok_exec {f O C f1 f2 f3 f4 f5 f6 : Addr} {fd d1 d2 d3 d4 d5 d6 : FuncData} (F : Fun K "execute" "Office.execute" s_Office_execute f fd) (T : OffT K O)
    (m1 : Meth K O "add" f1) (G1 : FnOk P w K mg base CX0 4 f1 d1 P_Office_add (spAdd O C)) (b1 : Binds K d1 P_Office_add []) (m2 : Meth K O "cancel" f2) (G2 : FnOk P w K mg base CX0 4 f2 d2 P_Office_cancel (spCancel O C)) (b2 : Binds K d2 P_Office_cancel [])
    (m3 : Meth K O "prolong" f3) (G3 : FnOk P w K mg base CX0 4 f3 d3 P_Office_prolong (spProlong O C)) (b3 : Binds K d3 P_Office_prolong []) (m4 : Meth K O "raise_order" f4) (G4 : FnOk P w K mg base CX0 4 f4 d4 P_Office_raise_order (spRaise O C)) (b4 : Binds K d4 P_Office_raise_order [])
    (m5 : Meth K O "undo" f5) (G5 : FnOk P w K mg base CX0 1 f5 d5 P_Office_undo (spUndo O C)) (b5 : Binds K d5 P_Office_undo []) (m6 : Meth K O "redo" f6) (G6 : FnOk P w K mg base CX0 1 f6 d6 P_Office_redo (spRedo O C)) (b6 : Binds K d6 P_Office_redo []) : FnOk P w K mg base CX0 5 f fd P_Office_execute (spExec O C) := by
  refine F.ok sc_Office_execute (fun vs H Q E h => ?_) (fun cdv A outer s H vs Q E hr h => ?_)
  · obtain ⟨o, a, op, S, rfl, _⟩ := h
    rfl
  · obtain ⟨o, a, op, S, rfl, W0, hl, ha, hk, q⟩ := h
    have hr1 : Room 1 _ := hr.mono (by decide)
    refine ⟨_, pss_cons (ps_set (i := 2) sc_Office_execute.nd rfl (.inl rfl) (pe_ix ix_tup (pv 1) pe_int (fun _ _ => rfl)))
      (pss_cons (ps_if (pt_cmpR op_eq (pv 2) pe_str (nomark _)) (pss_one (ps_ret (pe_meth (pv 0) T.cl m1 G1 hr b1 .nil pass0 (pa_cons (pe_ix ix_tup (pv 1) pe_int (fun _ _ => rfl)) pa_nil)))) pss_nil)
      (pss_cons (ps_if (pt_cmpR op_eq (pv 2) pe_str (nomark _)) (pss_one (ps_ret (pe_meth (pv 0) T.cl m2 G2 hr b2 .nil pass0 (pa_cons (pe_ix ix_tup (pv 1) pe_int (fun _ _ => rfl)) pa_nil)))) pss_nil)
      (pss_cons (ps_if (pt_cmpR op_eq (pv 2) pe_str (nomark _)) (pss_one (ps_ret (pe_meth (pv 0) T.cl m3 G3 hr b3 .nil pass0 (pa_cons (pe_ix ix_tup (pv 1) pe_int (fun _ _ => rfl)) (pa_cons (pe_ix ix_tup (pv 1) pe_int (fun _ _ => rfl)) pa_nil))))) pss_nil)
      (pss_cons (ps_if (pt_cmpR op_eq (pv 2) pe_str (nomark _)) (pss_one (ps_ret (pe_meth (pv 0) T.cl m4 G4 hr b4 .nil pass0 (pa_cons (pe_ix ix_tup (pv 1) pe_int (fun _ _ => rfl)) pa_nil)))) pss_nil)
      (pss_cons (ps_if (pt_cmpR op_eq (pv 2) pe_str (nomark _)) (pss_one (ps_ret (pe_meth0 (pv 0) T.cl m5 G5 hr1 b5 .nil pass0))) pss_nil)
      (pss_one (ps_ret (pe_meth0 (pv 0) T.cl m6 G6 hr1 b6 .nil pass0)))))))), ?_⟩
    obtain ⟨dx, fs, u, vs, ho, R, _⟩ := id W0
    have n1 : fs.lookup ("add" : Str) = none := R.no _ (by decide +kernel) (by decide +kernel) (by decide +kernel) (by decide +kernel)
    have n2 : fs.lookup ("cancel" : Str) = none := R.no _ (by decide +kernel) (by decide +kernel) (by decide +kernel) (by decide +kernel)
    have n3 : fs.lookup ("prolong" : Str) = none := R.no _ (by decide +kernel) (by decide +kernel) (by decide +kernel) (by decide +kernel)
    have n4 : fs.lookup ("raise_order" : Str) = none := R.no _ (by decide +kernel) (by decide +kernel) (by decide +kernel) (by decide +kernel)
    have n5 : fs.lookup ("undo" : Str) = none := R.no _ (by decide +kernel) (by decide +kernel) (by decide +kernel) (by decide +kernel)
    have n6 : fs.lookup ("redo" : Str) = none := R.no _ (by decide +kernel) (by decide +kernel) (by decide +kernel) (by decide +kernel)
    cases op with
    | add od =>
      obtain ⟨v, hv, hvo⟩ := ha
      obtain ⟨h1, h2⟩ := hk
      exact ⟨_, rfl, a, _, 0, _, rfl, rfl, SqT.of hv, atI_nat (j := 0) rfl, _, rfl, rfl, _, rfl, str_eqT ⟨_, rfl, o, dx, fs, rfl, ho, n1, _, rfl, a, _, 1, _, rfl, rfl, SqT.of hv, atI_nat (j := 1) rfl, o, v, od, S, rfl, W0, hl, hvo, h1, h2, fun H' b A => q H' _ b A rfl⟩⟩
    | cancel k =>
      have hv : H a = some (.tup [.str "cancel", .int k]) := ha
      obtain ⟨h1, h2⟩ := hk
      exact ⟨_, rfl, a, _, 0, _, rfl, rfl, SqT.of hv, atI_nat (j := 0) rfl, _, rfl, rfl, _, rfl, str_eqF (by decide +kernel) ⟨_, rfl, rfl, _, rfl, str_eqT ⟨_, rfl, o, dx, fs, rfl, ho, n2, _, rfl, a, _, 1, _, rfl, rfl, SqT.of hv, atI_nat (j := 1) rfl, o, k, S, rfl, W0, hl, h1, h2, fun H' v od b e r A => q H' v b A ⟨od, e, r⟩⟩⟩⟩
    | prolong k n =>
      have hv : H a = some (.tup [.str "prolong", .int k, .int n]) := ha
      obtain ⟨od, h1, h2, h3⟩ := hk
      refine ⟨_, rfl, a, _, 0, _, rfl, rfl, SqT.of hv, atI_nat (j := 0) rfl, _, rfl, rfl, _, rfl, str_eqF (by decide +kernel) ⟨_, rfl, rfl, _, rfl, str_eqF (by decide +kernel) ⟨_, rfl, rfl, _, rfl, str_eqT ⟨_, rfl, o, dx, fs, rfl, ho, n3, _, rfl, a, _, 1, _, rfl, rfl, SqT.of hv, atI_nat (j := 1) rfl, _, rfl, a, _, 2, _, rfl, rfl, SqT.of hv, atI_nat (j := 2) rfl, o, k, n, od, S, rfl, W0, hl, h1, h2, h3, fun H' b A => q H' _ b ?_ ⟨od, h1, rfl⟩⟩⟩⟩⟩
      show OffAt O C H' o (S.step "prolong" (setOd S.cur k (proO ((S.cur[k]?).getD ⟨0, 0, 0, 0, 0⟩) n)))
      rw [h1]
      exact A
    | rais k =>
      have hv : H a = some (.tup [.str "raise", .int k]) := ha
      obtain ⟨h1, h2⟩ := hk
      refine ⟨_, rfl, a, _, 0, _, rfl, rfl, SqT.of hv, atI_nat (j := 0) rfl, _, rfl, rfl, _, rfl, str_eqF (by decide +kernel) ⟨_, rfl, rfl, _, rfl, str_eqF (by decide +kernel) ⟨_, rfl, rfl, _, rfl, str_eqF (by decide +kernel) ⟨_, rfl, rfl, _, rfl, str_eqT ⟨_, rfl, o, dx, fs, rfl, ho, n4, _, rfl, a, _, 1, _, rfl, rfl, SqT.of hv, atI_nat (j := 1) rfl, o, k, S, rfl, W0, hl, h1, h2, fun H' od b e A => q H' _ b ?_ rfl⟩⟩⟩⟩⟩
      show OffAt O C H' o (S.step "raise" (((S.cur[k]?).getD ⟨0, 0, 0, 0, 0⟩) :: wo S.cur k))
      rw [e]
      exact A
    | undo =>
      have hv : H a = some (.tup [.str "undo"]) := ha
      refine ⟨_, rfl, a, _, 0, _, rfl, rfl, SqT.of hv, atI_nat (j := 0) rfl, _, rfl, rfl, _, rfl, str_eqF (by decide +kernel) ⟨_, rfl, rfl, _, rfl, str_eqF (by decide +kernel) ⟨_, rfl, rfl, _, rfl, str_eqF (by decide +kernel) ⟨_, rfl, rfl, _, rfl, str_eqF (by decide +kernel) ⟨_, rfl, rfl, _, rfl, str_eqT ⟨_, rfl, o, dx, fs, rfl, ho, n5, o, S, rfl, W0, fun z => ?_, fun z H' b A => q H' _ b A ?_⟩⟩⟩⟩⟩⟩
      · refine q H _ .refl ?_ ?_
        · have e : nextO S .undo = S := by
            show { S with e := S.e - 1 } = S
            rw [show S.e - 1 = S.e by omega]
          rw [e]
          exact W0
        · show V.bl false = .bl (decide (S.e ≠ 0))
          rw [decide_eq_false (fun y => y z)]
      · show V.bl true = .bl (decide (S.e ≠ 0))
        rw [decide_eq_true z]
    | redo =>
      have hv : H a = some (.tup [.str "redo"]) := ha
      refine ⟨_, rfl, a, _, 0, _, rfl, rfl, SqT.of hv, atI_nat (j := 0) rfl, _, rfl, rfl, _, rfl, str_eqF (by decide +kernel) ⟨_, rfl, rfl, _, rfl, str_eqF (by decide +kernel) ⟨_, rfl, rfl, _, rfl, str_eqF (by decide +kernel) ⟨_, rfl, rfl, _, rfl, str_eqF (by decide +kernel) ⟨_, rfl, rfl, _, rfl, str_eqF (by decide +kernel) ⟨_, rfl, o, dx, fs, rfl, ho, n6, o, S, rfl, W0, fun z => ?_, fun z H' b A => q H' _ b ?_ ?_⟩⟩⟩⟩⟩⟩
      · refine q H _ .refl ?_ ?_
        · have e : nextO S .redo = S := by
            show { S with e := min (S.e + 1) S.st.length } = S
            rw [show min (S.e + 1) S.st.length = S.e by omega]
          rw [e]
          exact W0
        · show V.bl false = .bl (decide (S.e < S.st.length))
          rw [decide_eq_false (by omega)]
      · show OffAt O C H' o { S with e := min (S.e + 1) S.st.length }
        rw [show min (S.e + 1) S.st.length = S.e + 1 by omega]
        exact A
      · show V.bl true = .bl (decide (S.e < S.st.length))
        rw [decide_eq_true z]
end
/-! ### raising the errors of the package -/
/-- the class x at D: what its raising asks -/
structure ErrR (K : PySem.W.Frag) (mg : Str → Option Value) (x : Str) (D : Addr) : Prop where
  g : mg x = some (.ref D)
  x : PySem.W.excIn K D [.type "ValueError", .type "Exception", .type "BaseException", .type "object"] "ValueError.__new__" = true
  k : PySem.W.keepIn K (.ref D) = true
  b : PySem.W.subIn K (.ref D) (.type "BaseException") = some true
  t : PySem.W.typeIn K (.ref D) = some (.type "type")
theorem pmk_err {X : Cx} {x m : Str} {j : Nat} {p p2 pos : Pos} {D : Addr} (E : ErrR X.K X.mg x D) (hg : Gl X x) (hdb : (x == ("__debug__" : Str)) = false := by decide) : PMk X (.Call (.Name x p) [.Constant (.str m) j p2] [] pos) (fun _ H Q => Q (.ref D) none H) :=
  pmk_own PySem.F.excBase_ValueError E.x E.g E.k (raises_own E.b E.t) hg hdb
abbrev takesX {X : Cx} := @takes_of X
section
variable {P : Program} {w : World} {K : PySem.W.Frag} {mg : Str → Option Value} {base : Heap}
/-- a def with one parameter and a star parameter, that may raise -/
theorem fun_star1X {x qual p1 pv : Str} {st : Stmt} {f : Addr} {fd : FuncData} {N : List Str} {k : Nat} {sp : Sp} (F : Fun K x qual st f fd) (S : FnScope N ([p1] ++ [pv]) (defScope st))
    (h0 : ∀ (kV doc pm : Value) (an : Option Addr) (cdv ct a : Value), bindArgs (PySem.W.fnOf x qual (defArgs st) (defBody st) (defScope st) .none kV doc pm an cdv ct) ⟨[a], []⟩ = (newTuple [] >>= fun t => pure [(p1, a), (pv, t)]))
    (h1 : ∀ (kV doc pm : Value) (an : Option Addr) (cdv ct a r : Value) (rs : List Value), bindArgs (PySem.W.fnOf x qual (defArgs st) (defBody st) (defScope st) .none kV doc pm an cdv ct) ⟨a :: r :: rs, []⟩ = (newTuple (r :: rs) >>= fun t => pure [(p1, a), (pv, t)]))
    (hbody : ∀ (cdv : Value) (A : Around) (outer : List Env) (s : Shared) (H : Hp) (vs : List V) (Q : VK) (E : XK), Room k (A.deeper (PyProof.Rows.envOfC qual (defScope st) s.heap.objs.size f cdv)) → sp vs H Q E →
      ∃ t, PSs (cxOf (L2.CX P w) P w K mg base N qual (defScope st) f cdv A outer s H E) (defBody st) t ∧ t { nx := fun _ H' => Q .non H', rt := Q } (L2.start N vs) H) :
    FnR P w K mg base (L2.CX P w) (k + 1) f (fun vs H Q E => ∃ a rest, vs = a :: rest ∧ rest.length ≤ sizeLine ∧ ∀ p, H p = none → sp [a, .ref p] (upd H p (.tup rest)) Q E) := by
  obtain ⟨oc, od, kV, doc, pm, an, cdv, ct, osl, rfl, lk, hcd⟩ := F.ex
  have g := StX.fn_star (CX := L2.CX P w) (P := P) (w := w) (K := K) (mg := mg) (base := base) (k := k) (ps := [p1]) (pv := pv) (sp := sp) lk hcd S StX.cxUp
    (StX.bind_star1 (B := fun us => bindArgs (PySem.W.fnOf x qual (defArgs st) (defBody st) (defScope st) .none kV doc pm an cdv ct) ⟨us, []⟩) (h0 kV doc pm an cdv ct) (h1 kV doc pm an cdv ct))
    fun A outer s H vs Q E hr hsp => hbody cdv A outer s H vs Q E hr hsp
  exact g.imp fun vs H Q E ⟨a, rest, e, hz, h⟩ => ⟨[a], rest, e, rfl, hz, h⟩
end
/-! ### a promise without errors among those with; one of two promises -/
section
variable {P : Program} {w : World} {K : PySem.W.Frag} {mg : Str → Option Value} {base : Heap}
theorem FnOk.up {k : Nat} {f : Addr} {fd : FuncData} {ps : List Str} {sp : Sp} (F : FnOk P w K mg base CX0 k f fd ps sp) : FnOk P w K mg base (L2.CX P w) k f fd ps sp :=
  ⟨F.len, fun A outer s H args us vs Q E hr he hb hv hs => PySem.codeAny_mono (F.run A outer s H args us vs Q E hr he hb hv hs) fun r s' h => by
    cases r with
    | ok z => cases z <;> exact h
    | error e => exact False.elim h⟩
theorem FnOk.or {CX : CXT} {k : Nat} {f : Addr} {fd : FuncData} {ps : List Str} {sp sp' : Sp} (F : FnOk P w K mg base CX k f fd ps sp) (G : FnOk P w K mg base CX k f fd ps sp') : FnOk P w K mg base CX k f fd ps (fun vs H Q E => sp vs H Q E ∨ sp' vs H Q E) :=
  ⟨fun vs H Q E h => h.elim (F.len vs H Q E) (G.len vs H Q E), fun A outer s H args us vs Q E hr he hb hv hs => hs.elim (F.run A outer s H args us vs Q E hr he hb hv) (G.run A outer s H args us vs Q E hr he hb hv)⟩
end
/-! ### what an office raises -/
def spChkIxX (D : Addr) : Sp := fun vs H _ E => ∃ (t : Addr) (i : Int) (ts : List V), vs = [.ref t, .int i] ∧ H t = some (.tup ts) ∧ ¬ (0 ≤ i ∧ i < ts.length) ∧ E (.ref D) none H
def spAddX (O C DI DM : Addr) : Sp := fun vs H _ E => ∃ (o : Addr) (v : V) (od : Od) (S : OffS), vs = [.ref o, v] ∧ OffAt O C H o S ∧ OrdAt H v od ∧ (orderB S.p S.h od.vs = false ∨ (OdOk S.p S.h od ∧ S.cur.length = 20)) ∧
  (orderB S.p S.h od.vs = false → E (.ref DI) none H) ∧ (OdOk S.p S.h od → S.cur.length = 20 → E (.ref DM) none H)
def spIxX (O C D : Addr) : Sp := fun vs H _ E => ∃ (o : Addr) (i : Int) (S : OffS), vs = [.ref o, .int i] ∧ OffAt O C H o S ∧ ¬ (0 ≤ i ∧ i < S.cur.length) ∧ E (.ref D) none H
def spProlongX (O C D DI : Addr) : Sp := fun vs H _ E => ∃ (o : Addr) (i : Int) (n : Nat) (S : OffS), vs = [.ref o, .int i, .int n] ∧ OffAt O C H o S ∧
  ((¬ (0 ≤ i ∧ i < S.cur.length) ∧ E (.ref D) none H) ∨ ∃ (k : Nat) (od : Od), i = (k : Nat) ∧ S.cur[k]? = some od ∧ orderB S.p S.h (proO od n).vs = false ∧ ∀ H', Same H H' → E (.ref DI) none H')
theorem OrdAt.likeB {K : PySem.W.Frag} {H : Hp} {v : V} {o : Od} {p h : Int} (q : OrdAt H v o) : OrderLike K H v p h (orderB p h o.vs) := by
  obtain ⟨t, rfl, ht⟩ := q
  refine .inl ⟨t, _, rfl, ht, fun x hx => ?_, rfl⟩
  have hx : x ∈ [V.int (o.s : Int), V.int (o.t : Int), V.int (o.f : Int), V.int (o.n : Int), V.int (o.e : Int)] := hx
  simp only [List.mem_cons, List.not_mem_nil, or_false] at hx
  rcases hx with rfl | rfl | rfl | rfl | rfl <;> exact .int
section
variable {P : Program} {w : World} {K : PySem.W.Frag} {mg : Str → Option Value} {base : Heap}
theorem ok_chk_ixX {f D : Addr} {fd : FuncData} (F : Fun K "check_index" "check_index" s_check_index f fd) (B : Blt mg) (ER : ErrR K mg "UnknownOrder" D) (DW : Df P w K mg base "is_within" 2 P_is_within (spWithin K)) : FnOk P w K mg base (L2.CX P w) 3 f fd P_check_index (spChkIxX D) := by
  obtain ⟨fW, fdW, gW, kW, bW, GW⟩ := DW
  refine F.okX sc_check_index (fun vs H Q E h => ?_) (fun cdv A outer s H vs Q E hr h => ?_)
  · obtain ⟨t, i, ts, rfl, _⟩ := h
    rfl
  · obtain ⟨t, i, ts, rfl, ht, hk, q⟩ := h
    refine ⟨_, pss_one (ps_if (pt_not (pt_val (pe_call GW hr (by rfl) gW kW bW .nil pass0 (pa_cons (pv 1) (pa_cons pe_int (pa_cons (pe_op op_sub (pe_callB call_len_seq (by rfl) B.len PySem.boot_len (pa_cons (pv 0) pa_nil)) pe_int) pa_nil)))))) (pss_one (ps_raise rfl (takes_of rfl rfl rfl rfl) (pmk_err ER (by rfl)))) pss_nil), ?_⟩
    refine ⟨_, rfl, _, rfl, t, _, rfl, .inr (SqT.of ht), _, _, rfl, rfl, _, 0, ((ts.length : Int) - 1), rfl, .int, _, rfl, ?_⟩
    rw [show withinB (.int i) 0 ((ts.length : Int) - 1) = false by
      show (decide ((0 : Int) ≤ i) && decide (i ≤ (ts.length : Int) - 1)) = false
      by_cases c : 0 ≤ i
      · rw [decide_eq_true c, decide_eq_false (by omega)]
        rfl
      · rw [decide_eq_false c]
        rfl]
    exact iteT q
theorem ok_addX {f O C pP fP DI DM : Addr} {fd fdP : FuncData} (F : Fun K "add" "Office.add" s_Office_add f fd) (B : Blt mg) (T : OffT K O) (TN : NetT K C) (ERI : ErrR K mg "InvalidOrder" DI) (ERM : ErrR K mg "TooManyOrders" DM) (pO : PropOf K O "present_orders" pP fP) (GP : FnOk P w K mg base CX0 1 fP fdP P_Office_present_orders (spPres O C)) (bP : Binds K fdP P_Office_present_orders [])
    (DO : Df P w K mg base "is_order" 3 P_is_order (spIsOrder K)) (hM : ∃ t, mg "MOST_ORDERS" = some (.int 20 t)) : FnOk P w K mg base (L2.CX P w) 4 f fd P_Office_add (spAddX O C DI DM) := by
  obtain ⟨fI, fdI, gI, kI, bI, GI⟩ := DO
  obtain ⟨tM, hM⟩ := hM
  refine F.okX sc_Office_add (fun vs H Q E h => ?_) (fun cdv A outer s H vs Q E hr h => ?_)
  · obtain ⟨o, v, od, S, rfl, _⟩ := h
    rfl
  · obtain ⟨o, v, od, S, rfl, A, hv, hc, q1, q2⟩ := h
    have hr2 : Room 2 _ := hr.mono (by decide)
    refine ⟨_, pss_cons (ps_if (pt_not (pt_val (pe_call GI hr (by rfl) gI kI bI .nil pass0 (pa_cons (pe_fld (pe_fld (pv 0) rfl) rfl) (pa_cons (pe_fld (pe_fld (pv 0) rfl) rfl) (pa_cons (pv 1) pa_nil)))))) (pss_one (ps_raise rfl (takes_of rfl rfl rfl rfl) (pmk_err ERI (by rfl)))) pss_nil)
      (pss_cons (ps_set (i := 2) sc_Office_add.nd rfl (.inl rfl) (pe_prop (pv 0) T.cl pO GP hr2 bP .nil pass0 rfl))
      (pss_cons (ps_if (pt_cmpR op_eq (pe_callB call_len_seq (by rfl) B.len PySem.boot_len (pa_cons (pv 2) pa_nil)) (pe_glob (v := .int 20) rfl hM ⟨_, rfl⟩) (nomark _)) (pss_one (ps_raise rfl (takes_of rfl rfl rfl rfl) (pmk_err ERM (by rfl)))) pss_nil)
      (pss_cons ps_never (pss_one ps_never)))), ?_⟩
    obtain ⟨dx, fs, u, vs, ho, R, hu, hPv, he, N, no⟩ := id A
    obtain ⟨dxn, fl, as, _, hx, _⟩ := id N
    rcases hc with hb | ⟨hod, h20⟩
    · refine ⟨_, rfl, o, O, dx, fs, _, rfl, ho, T.cl, T.nN, R.net, S.x, C, dxn, _, _, rfl, hx, TN.cl, TN.nP, nf_pe, _, rfl, o, O, dx, fs, _, rfl, ho, T.cl, T.nN, R.net, S.x, C, dxn, _, _, rfl, hx, TN.cl, TN.nH, nf_ho, _, rfl, v, _, _, _, rfl, hv.likeB, _, rfl, ?_⟩
      rw [hb]
      exact iteT (q1 hb)
    · refine ⟨_, rfl, o, O, dx, fs, _, rfl, ho, T.cl, T.nN, R.net, S.x, C, dxn, _, _, rfl, hx, TN.cl, TN.nP, nf_pe, _, rfl, o, O, dx, fs, _, rfl, ho, T.cl, T.nN, R.net, S.x, C, dxn, _, _, rfl, hx, TN.cl, TN.nH, nf_ho, _, rfl, v, _, _, true, rfl, OrdAt.like hod hv, _, rfl, iteF ?_⟩
      refine ⟨_, rfl, o, dx, fs, rfl, ho, o, S, rfl, A, fun t hO => ?_⟩
      obtain ⟨ts, ht, hP⟩ := id hO
      have tl := hP.length
      refine ⟨_, rfl, t, ts, rfl, .inr (SqT.of ht), rfl, _, rfl, ?_⟩
      rw [show decide (V.int ((ts.length : Nat) : Int) = V.int 20) = true from decide_eq_true (by rw [tl, h20]; rfl)]
      exact iteT (q2 hod h20)
theorem ok_cancelX {f O C pP fP D fI : Addr} {fd fdP fdI : FuncData} (F : Fun K "cancel" "Office.cancel" s_Office_cancel f fd) (T : OffT K O) (pO : PropOf K O "present_orders" pP fP) (GP : FnOk P w K mg base CX0 1 fP fdP P_Office_present_orders (spPres O C)) (bP : Binds K fdP P_Office_present_orders [])
    (gI : mg "check_index" = some (.ref fI)) (kI : PySem.W.keepIn K (.ref fI) = true) (bI : Binds K fdI P_check_index []) (GI : FnOk P w K mg base (L2.CX P w) 3 fI fdI P_check_index (spChkIxX D)) : FnOk P w K mg base (L2.CX P w) 4 f fd P_Office_cancel (spIxX O C D) := by
  refine F.okX sc_Office_cancel (fun vs H Q E h => ?_) (fun cdv A outer s H vs Q E hr h => ?_)
  · obtain ⟨o, i, S, rfl, _⟩ := h
    rfl
  · obtain ⟨o, i, S, rfl, A, hi, q⟩ := h
    have hr2 : Room 2 _ := hr.mono (by decide)
    refine ⟨_, pss_cons (ps_set (i := 2) sc_Office_cancel.nd rfl (.inl rfl) (pe_prop (pv 0) T.cl pO GP hr2 bP .nil pass0 rfl))
      (pss_cons (ps_expr (pe_call (E := E) GI hr (by rfl) gI kI bI .nil (passes_call (takes_of rfl rfl rfl rfl) fun _ _ _ _ z => z) (pa_cons (pv 2) (pa_cons (pv 1) pa_nil))))
      (pss_cons ps_never (pss_one ps_never))), ?_⟩
    obtain ⟨dx, fs, u, vs, ho, R, _⟩ := id A
    refine ⟨_, rfl, o, dx, fs, rfl, ho, o, S, rfl, A, fun t hO => ?_⟩
    obtain ⟨ts, ht, hP⟩ := id hO
    exact ⟨_, rfl, _, rfl, t, i, ts, rfl, ht, by rw [hP.length]; exact hi, q⟩
theorem ok_raiseX {f O C pP fP D fI : Addr} {fd fdP fdI : FuncData} (F : Fun K "raise_order" "Office.raise_order" s_Office_raise_order f fd) (T : OffT K O) (pO : PropOf K O "present_orders" pP fP) (GP : FnOk P w K mg base CX0 1 fP fdP P_Office_present_orders (spPres O C)) (bP : Binds K fdP P_Office_present_orders [])
    (gI : mg "check_index" = some (.ref fI)) (kI : PySem.W.keepIn K (.ref fI) = true) (bI : Binds K fdI P_check_index []) (GI : FnOk P w K mg base (L2.CX P w) 3 fI fdI P_check_index (spChkIxX D)) : FnOk P w K mg base (L2.CX P w) 4 f fd P_Office_raise_order (spIxX O C D) := by
  refine F.okX sc_Office_raise_order (fun vs H Q E h => ?_) (fun cdv A outer s H vs Q E hr h => ?_)
  · obtain ⟨o, i, S, rfl, _⟩ := h
    rfl
  · obtain ⟨o, i, S, rfl, A, hi, q⟩ := h
    have hr2 : Room 2 _ := hr.mono (by decide)
    refine ⟨_, pss_cons (ps_set (i := 2) sc_Office_raise_order.nd rfl (.inl rfl) (pe_prop (pv 0) T.cl pO GP hr2 bP .nil pass0 rfl))
      (pss_cons (ps_expr (pe_call (E := E) GI hr (by rfl) gI kI bI .nil (passes_call (takes_of rfl rfl rfl rfl) fun _ _ _ _ z => z) (pa_cons (pv 2) (pa_cons (pv 1) pa_nil))))
      (pss_one ps_never)), ?_⟩
    obtain ⟨dx, fs, u, vs, ho, R, _⟩ := id A
    refine ⟨_, rfl, o, dx, fs, rfl, ho, o, S, rfl, A, fun t hO => ?_⟩
    obtain ⟨ts, ht, hP⟩ := id hO
    exact ⟨_, rfl, _, rfl, t, i, ts, rfl, ht, by rw [hP.length]; exact hi, q⟩
theorem ok_prolongX {f O C pP fP D DI fI : Addr} {fd fdP fdI : FuncData} (F : Fun K "prolong" "Office.prolong" s_Office_prolong f fd) (T : OffT K O) (TN : NetT K C) (ERI : ErrR K mg "InvalidOrder" DI) (pO : PropOf K O "present_orders" pP fP) (GP : FnOk P w K mg base CX0 1 fP fdP P_Office_present_orders (spPres O C)) (bP : Binds K fdP P_Office_present_orders [])
    (gI : mg "check_index" = some (.ref fI)) (kI : PySem.W.keepIn K (.ref fI) = true) (bI : Binds K fdI P_check_index []) (GI0 : FnOk P w K mg base CX0 3 fI fdI P_check_index spChkIx) (GIX : FnOk P w K mg base (L2.CX P w) 3 fI fdI P_check_index (spChkIxX D))
    (DO : Df P w K mg base "is_order" 3 P_is_order (spIsOrder K)) : FnOk P w K mg base (L2.CX P w) 4 f fd P_Office_prolong (spProlongX O C D DI) := by
  obtain ⟨fO, fdO, gO, kO, bO, GO⟩ := DO
  have GI := FnOk.or (FnOk.up GI0) GIX
  refine F.okX sc_Office_prolong (fun vs H Q E h => ?_) (fun cdv A outer s H vs Q E hr h => ?_)
  · obtain ⟨o, i, n, S, rfl, _⟩ := h
    rfl
  · obtain ⟨o, i, n, S, rfl, A, hc⟩ := h
    have hr2 : Room 2 _ := hr.mono (by decide)
    refine ⟨_, pss_cons (ps_set (i := 3) sc_Office_prolong.nd rfl (.inl rfl) (pe_prop (pv 0) T.cl pO GP hr2 bP .nil pass0 rfl))
      (pss_cons (ps_expr (pe_call (E := E) GI hr (by rfl) gI kI bI .nil (passes_call (takes_of rfl rfl rfl rfl) fun _ _ _ _ z => z) (pa_cons (pv 3) (pa_cons (pv 1) pa_nil))))
      (pss_cons (ps_asg (pe_ix ix_tup (pv 3) (pv 1) (fun _ _ => rfl)) (pg_tup (by rfl) (pgs_cons (pg_name (i := 4) sc_Office_prolong.nd rfl (.inl rfl)) (pgs_cons (pg_name (i := 5) sc_Office_prolong.nd rfl (.inl rfl)) (pgs_cons (pg_name (i := 6) sc_Office_prolong.nd rfl (.inl rfl)) (pgs_cons (pg_name (i := 7) sc_Office_prolong.nd rfl (.inl rfl)) (pgs_cons (pg_name (i := 8) sc_Office_prolong.nd rfl (.inl rfl)) pgs_nil)))))))
      (pss_cons (ps_set (i := 9) sc_Office_prolong.nd rfl (.inl rfl) (pe_tup (pa_cons (pv 4) (pa_cons (pv 5) (pa_cons (pv 6) (pa_cons (pv 2) (pa_cons (pv 8) pa_nil)))))))
      (pss_cons (ps_if (pt_not (pt_val (pe_call GO hr (by rfl) gO kO bO .nil pass0 (pa_cons (pe_fld (pe_fld (pv 0) rfl) rfl) (pa_cons (pe_fld (pe_fld (pv 0) rfl) rfl) (pa_cons (pv 9) pa_nil)))))) (pss_one (ps_raise rfl (takes_of rfl rfl rfl rfl) (pmk_err ERI (by rfl)))) pss_nil)
      (pss_cons ps_never (pss_one ps_never)))))), ?_⟩
    obtain ⟨dx, fs, u, vs, ho, R, hu, hPv, he, N, no⟩ := id A
    obtain ⟨dxn, fl, as, _, hx, _⟩ := id N
    refine ⟨_, rfl, o, dx, fs, rfl, ho, o, S, rfl, A, fun t hO => ?_⟩
    obtain ⟨ts, ht, hP⟩ := id hO
    have tl := hP.length
    rcases hc with ⟨hi, q⟩ | ⟨k, od, rfl, hk, hb, q⟩
    · exact ⟨_, rfl, _, rfl, .inr ⟨t, i, ts, rfl, ht, by rw [tl]; exact hi, q⟩⟩
    · have lt : k < S.cur.length := (List.getElem?_eq_some_iff.mp hk).1
      refine ⟨_, rfl, _, rfl, .inl ⟨t, k, ts, rfl, ht, by omega, ?_⟩⟩
      obtain ⟨v, hv, u0, rfl, hu0⟩ := Paired.get? (i := k) hP hk
      refine ⟨_, rfl, _, rfl, t, ts, k, _, rfl, rfl, SqT.of ht, atI_nat (j := k) hv, ?_⟩
      refine ⟨u0, _, rfl, SqT.of hu0, rfl, _, _, rfl, _, _, rfl, _, _, rfl, _, _, rfl, _, _, rfl, rfl, ?_⟩
      refine ⟨_, rfl, _, rfl, _, rfl, _, rfl, _, rfl, (by show 5 ≤ sizeLine; decide), fun u1 nu1 => ?_⟩
      have s1 := same_upd (o := HO.tup [.int od.s, .int od.t, .int od.f, .int n, .int od.e]) nu1
      have hv1 : OrdAt (upd H u1 (.tup [.int od.s, .int od.t, .int od.f, .int n, .int od.e])) (.ref u1) (proO od n) := ⟨u1, rfl, upd_same⟩
      refine ⟨_, rfl, o, O, dx, fs, _, rfl, s1 _ _ ho, T.cl, T.nN, R.net, S.x, C, dxn, _, _, rfl, s1 _ _ hx, TN.cl, TN.nP, nf_pe, _, rfl, o, O, dx, fs, _, rfl, s1 _ _ ho, T.cl, T.nN, R.net, S.x, C, dxn, _, _, rfl, s1 _ _ hx, TN.cl, TN.nH, nf_ho, _, rfl, _, _, _, _, rfl, hv1.likeB, _, rfl, ?_⟩
      rw [hb]
      exact iteT (q _ s1)
end
/-! ### operations as a law draws them, and what an office does with them -/
inductive OpI where
  | add (od : Od)
  | cancel (i : Int)
  | prolong (i : Int) (n : Nat)
  | rais (i : Int)
  | undo
  | redo
def OpIAt (H : Hp) (a : Addr) : OpI → Prop
  | .add od => ∃ v, H a = some (.tup [.str "add", v]) ∧ OrdAt H v od
  | .cancel i => H a = some (.tup [.str "cancel", .int i])
  | .prolong i n => H a = some (.tup [.str "prolong", .int i, .int n])
  | .rais i => H a = some (.tup [.str "raise", .int i])
  | .undo => H a = some (.tup [.str "undo"])
  | .redo => H a = some (.tup [.str "redo"])
theorem OpIAt.keep {H H' : Hp} {a : Addr} {op : OpI} (k : TupKeep H H') (h : OpIAt H a op) : OpIAt H' a op := by
  cases op with
  | add od => obtain ⟨v, h1, h2⟩ := h; exact ⟨v, k _ _ h1, h2.keep k⟩
  | cancel i => exact k _ _ h
  | prolong i n => exact k _ _ h
  | rais i => exact k _ _ h
  | undo => exact k _ _ h
  | redo => exact k _ _ h
def OpI.toN : OpI → Opn
  | .add od => .add od
  | .cancel i => .cancel i.toNat
  | .prolong i n => .prolong i.toNat n
  | .rais i => .rais i.toNat
  | .undo => .undo
  | .redo => .redo
def inIx (i : Int) (l : List Od) : Prop := 0 ≤ i ∧ i < l.length
instance {i : Int} {l : List Od} : Decidable (inIx i l) := inferInstanceAs (Decidable (_ ∧ _))
/-- the number of the error of an operation, or none -/
def errI (p : Nat) (cur : List Od) : OpI → Option Nat
  | .add od => if p < od.n then some 4 else if cur.length = 20 then some 5 else none
  | .cancel i => if inIx i cur then none else some 2
  | .prolong i n => if inIx i cur then (if 1 ≤ n ∧ n ≤ p then none else some 4) else some 2
  | .rais i => if inIx i cur then none else some 2
  | .undo => none
  | .redo => none
def OpWf (p h : Nat) : OpI → Prop
  | .add od => od.s < h ∧ od.t < h ∧ od.s ≠ od.t ∧ od.f < p ∧ 1 ≤ od.n ∧ od.n ≤ p + 1 ∧ 1 ≤ od.e ∧ od.e ≤ 9
  | .prolong _ n => n ≤ p + 1
  | _ => True
def spDo (O C : Addr) : Sp := fun vs H Q _ => ∃ (o a : Addr) (op : OpI) (S : OffS), vs = [.ref o, .ref a] ∧ OffAt O C H o S ∧ S.st.length ≤ 900 ∧ OpIAt H a op ∧ OpnOk S op.toN ∧ (∀ i, op = .cancel i ∨ op = .rais i → 0 ≤ i) ∧ (∀ i n, op = .prolong i n → 0 ≤ i) ∧
  ∀ H' v, But o H H' → OffAt O C H' o (nextO S op.toN) → ResO H' v S op.toN → Q v H'
def spDoX (O C : Addr) (cE : Nat → Addr) : Sp := fun vs H _ E => ∃ (o a : Addr) (op : OpI) (S : OffS) (i : Nat), vs = [.ref o, .ref a] ∧ OffAt O C H o S ∧ NetOk S.p S.h S.cur ∧ OpIAt H a op ∧ OpWf S.p S.h op ∧ errI S.p S.cur op = some i ∧ ∀ H', Same H H' → E (.ref (cE i)) none H'
theorem orderB_bad {p h : Nat} {od : Od} (hn : ¬ (1 ≤ od.n ∧ od.n ≤ p)) : orderB p h od.vs = false := by
  have e : withinB (.int (od.n : Nat)) 1 (p : Int) = false := by
    show (decide ((1 : Int) ≤ (od.n : Nat)) && decide (((od.n : Nat) : Int) ≤ (p : Int))) = false
    by_cases c : 1 ≤ od.n
    · rw [decide_eq_false (show ¬ ((od.n : Nat) : Int) ≤ (p : Int) by omega), Bool.and_false]
    · rw [decide_eq_false (show ¬ (1 : Int) ≤ ((od.n : Nat) : Int) by omega), Bool.false_and]
  show (_ && (_ && (_ && (_ && (withinB (.int (od.n : Nat)) 1 (p : Int) && _))))) = false
  rw [e, Bool.false_and, Bool.and_false, Bool.and_false, Bool.and_false, Bool.and_false]
theorem orderB_n {p h : Nat} {od : Od} (hn : p < od.n) : orderB p h od.vs = false := orderB_bad (by omega)
/-! ### what an office raises, told with the error's context -/
section
open PySem.Spec PyProof.Rows
theorem pmk_errN {X : Cx} {x m : Str} {j : Nat} {p p2 pos : Pos} {D : Addr} (E : ErrR X.K X.mg x D) (hg : Gl X x) (hdb : (x == ("__debug__" : Str)) = false := by decide) : L2N.PMk X (.Call (.Name x p) [.Constant (.str m) j p2] [] pos) (fun _ H Q => Q (.ref D) none H) :=
  L2N.pmk_own PySem.F.excBase_ValueError E.x E.g E.k (raises_own E.b E.t) hg hdb
theorem okN {P : Program} {w : World} {K : PySem.W.Frag} {mg : Str → Option Value} {base : Heap} {x qual : Str} {st : Stmt} {f : Addr} {fd : FuncData} {N ps : List Str} {k : Nat} {sp : Sp} (F : Fun K x qual st f fd) (S : FnScope N ps (defScope st)) (len : ∀ vs H Q E, sp vs H Q E → vs.length = ps.length)
    (hbody : ∀ (cdv : Value) (A : Around) (outer : List Env) (s : Shared) (H : Hp) (vs : List V) (Q : VK) (E : XK), Room k (A.deeper (PyProof.Rows.envOfC qual (defScope st) s.heap.objs.size f cdv)) → sp vs H Q E →
      ∃ t, PSs (cxOf (L2N.CX P w) P w K mg base N qual (defScope st) f cdv A outer s H E) (defBody st) t ∧ t { nx := fun _ H' => Q .non H', rt := Q } (L2.start N vs) H) : FnOk P w K mg base (L2N.CX P w) (k + 1) f fd ps sp := by
  obtain ⟨oc, od, kV, doc, pm, an, cdv, ct, osl, rfl, lk, hcd⟩ := F.ex
  exact fn_of lk hcd S len fun A outer s H vs Q E hr hsp => hbody cdv A outer s H vs Q E hr hsp
end
section
variable {P : Program} {w : World} {K : PySem.W.Frag} {mg : Str → Option Value} {base : Heap}
theorem upN {k : Nat} {f : Addr} {fd : FuncData} {ps : List Str} {sp : Sp} (F : FnOk P w K mg base CX0 k f fd ps sp) : FnOk P w K mg base (L2N.CX P w) k f fd ps sp :=
  ⟨F.len, fun A outer s H args us vs Q E hr he hb hv hs => PySem.codeAny_mono (F.run A outer s H args us vs Q E hr he hb hv hs) fun r s' h => by
    cases r with
    | ok z => cases z <;> exact h
    | error e => exact False.elim h⟩
theorem ok_chk_ixN {f D : Addr} {fd : FuncData} (F : Fun K "check_index" "check_index" s_check_index f fd) (B : Blt mg) (ER : ErrR K mg "UnknownOrder" D) (DW : Df P w K mg base "is_within" 2 P_is_within (spWithin K)) : FnOk P w K mg base (L2N.CX P w) 3 f fd P_check_index (spChkIxX D) := by
  obtain ⟨fW, fdW, gW, kW, bW, GW⟩ := DW
  refine okN F sc_check_index (fun vs H Q E h => ?_) (fun cdv A outer s H vs Q E hr h => ?_)
  · obtain ⟨t, i, ts, rfl, _⟩ := h
    rfl
  · obtain ⟨t, i, ts, rfl, ht, hk, q⟩ := h
    refine ⟨_, pss_one (ps_if (pt_not (pt_val (pe_call GW hr (by rfl) gW kW bW .nil pass0 (pa_cons (pv 1) (pa_cons pe_int (pa_cons (pe_op op_sub (pe_callB call_len_seq (by rfl) B.len PySem.boot_len (pa_cons (pv 0) pa_nil)) pe_int) pa_nil)))))) (pss_one (L2N.ps_raise rfl (L2N.takes_of rfl rfl rfl rfl) (pmk_errN ER (by rfl)))) pss_nil), ?_⟩
    refine ⟨_, rfl, _, rfl, t, _, rfl, .inr (SqT.of ht), _, _, rfl, rfl, _, 0, ((ts.length : Int) - 1), rfl, .int, _, rfl, ?_⟩
    rw [show withinB (.int i) 0 ((ts.length : Int) - 1) = false by
      show (decide ((0 : Int) ≤ i) && decide (i ≤ (ts.length : Int) - 1)) = false
      by_cases c : 0 ≤ i
      · rw [decide_eq_true c, decide_eq_false (by omega)]
        rfl
      · rw [decide_eq_false c]
        rfl]
    exact iteT q
theorem ok_addN {f O C pP fP DI DM : Addr} {fd fdP : FuncData} (F : Fun K "add" "Office.add" s_Office_add f fd) (B : Blt mg) (T : OffT K O) (TN : NetT K C) (ERI : ErrR K mg "InvalidOrder" DI) (ERM : ErrR K mg "TooManyOrders" DM) (pO : PropOf K O "present_orders" pP fP) (GP : FnOk P w K mg base CX0 1 fP fdP P_Office_present_orders (spPres O C)) (bP : Binds K fdP P_Office_present_orders [])
    (DO : Df P w K mg base "is_order" 3 P_is_order (spIsOrder K)) (hM : ∃ t, mg "MOST_ORDERS" = some (.int 20 t)) : FnOk P w K mg base (L2N.CX P w) 4 f fd P_Office_add (spAddX O C DI DM) := by
  obtain ⟨fI, fdI, gI, kI, bI, GI⟩ := DO
  obtain ⟨tM, hM⟩ := hM
  refine okN F sc_Office_add (fun vs H Q E h => ?_) (fun cdv A outer s H vs Q E hr h => ?_)
  · obtain ⟨o, v, od, S, rfl, _⟩ := h
    rfl
  · obtain ⟨o, v, od, S, rfl, A, hv, hc, q1, q2⟩ := h
    have hr2 : Room 2 _ := hr.mono (by decide)
    refine ⟨_, pss_cons (ps_if (pt_not (pt_val (pe_call GI hr (by rfl) gI kI bI .nil pass0 (pa_cons (pe_fld (pe_fld (pv 0) rfl) rfl) (pa_cons (pe_fld (pe_fld (pv 0) rfl) rfl) (pa_cons (pv 1) pa_nil)))))) (pss_one (L2N.ps_raise rfl (L2N.takes_of rfl rfl rfl rfl) (pmk_errN ERI (by rfl)))) pss_nil)
      (pss_cons (ps_set (i := 2) sc_Office_add.nd rfl (.inl rfl) (pe_prop (pv 0) T.cl pO GP hr2 bP .nil pass0 rfl))
      (pss_cons (ps_if (pt_cmpR op_eq (pe_callB call_len_seq (by rfl) B.len PySem.boot_len (pa_cons (pv 2) pa_nil)) (pe_glob (v := .int 20) rfl hM ⟨_, rfl⟩) (nomark _)) (pss_one (L2N.ps_raise rfl (L2N.takes_of rfl rfl rfl rfl) (pmk_errN ERM (by rfl)))) pss_nil)
      (pss_cons ps_never (pss_one ps_never)))), ?_⟩
    obtain ⟨dx, fs, u, vs, ho, R, hu, hPv, he, N, no⟩ := id A
    obtain ⟨dxn, fl, as, _, hx, _⟩ := id N
    rcases hc with hb | ⟨hod, h20⟩
    · refine ⟨_, rfl, o, O, dx, fs, _, rfl, ho, T.cl, T.nN, R.net, S.x, C, dxn, _, _, rfl, hx, TN.cl, TN.nP, nf_pe, _, rfl, o, O, dx, fs, _, rfl, ho, T.cl, T.nN, R.net, S.x, C, dxn, _, _, rfl, hx, TN.cl, TN.nH, nf_ho, _, rfl, v, _, _, _, rfl, hv.likeB, _, rfl, ?_⟩
      rw [hb]
      exact iteT (q1 hb)
    · refine ⟨_, rfl, o, O, dx, fs, _, rfl, ho, T.cl, T.nN, R.net, S.x, C, dxn, _, _, rfl, hx, TN.cl, TN.nP, nf_pe, _, rfl, o, O, dx, fs, _, rfl, ho, T.cl, T.nN, R.net, S.x, C, dxn, _, _, rfl, hx, TN.cl, TN.nH, nf_ho, _, rfl, v, _, _, true, rfl, OrdAt.like hod hv, _, rfl, iteF ?_⟩
      refine ⟨_, rfl, o, dx, fs, rfl, ho, o, S, rfl, A, fun t hO => ?_⟩
      obtain ⟨ts, ht, hP⟩ := id hO
      have tl := hP.length
      refine ⟨_, rfl, t, ts, rfl, .inr (SqT.of ht), rfl, _, rfl, ?_⟩
      rw [show decide (V.int ((ts.length : Nat) : Int) = V.int 20) = true from decide_eq_true (by rw [tl, h20]; rfl)]
      exact iteT (q2 hod h20)
theorem ok_cancelN {f O C pP fP D fI : Addr} {fd fdP fdI : FuncData} (F : Fun K "cancel" "Office.cancel" s_Office_cancel f fd) (T : OffT K O) (pO : PropOf K O "present_orders" pP fP) (GP : FnOk P w K mg base CX0 1 fP fdP P_Office_present_orders (spPres O C)) (bP : Binds K fdP P_Office_present_orders [])
    (gI : mg "check_index" = some (.ref fI)) (kI : PySem.W.keepIn K (.ref fI) = true) (bI : Binds K fdI P_check_index []) (GI : FnOk P w K mg base (L2N.CX P w) 3 fI fdI P_check_index (spChkIxX D)) : FnOk P w K mg base (L2N.CX P w) 4 f fd P_Office_cancel (spIxX O C D) := by
  refine okN F sc_Office_cancel (fun vs H Q E h => ?_) (fun cdv A outer s H vs Q E hr h => ?_)
  · obtain ⟨o, i, S, rfl, _⟩ := h
    rfl
  · obtain ⟨o, i, S, rfl, A, hi, q⟩ := h
    have hr2 : Room 2 _ := hr.mono (by decide)
    refine ⟨_, pss_cons (ps_set (i := 2) sc_Office_cancel.nd rfl (.inl rfl) (pe_prop (pv 0) T.cl pO GP hr2 bP .nil pass0 rfl))
      (pss_cons (ps_expr (pe_call (E := E) GI hr (by rfl) gI kI bI .nil (L2N.passes_call (L2N.takes_of rfl rfl rfl rfl) fun _ _ _ _ z => z) (pa_cons (pv 2) (pa_cons (pv 1) pa_nil))))
      (pss_cons ps_never (pss_one ps_never))), ?_⟩
    obtain ⟨dx, fs, u, vs, ho, R, _⟩ := id A
    refine ⟨_, rfl, o, dx, fs, rfl, ho, o, S, rfl, A, fun t hO => ?_⟩
    obtain ⟨ts, ht, hP⟩ := id hO
    exact ⟨_, rfl, _, rfl, t, i, ts, rfl, ht, by rw [hP.length]; exact hi, q⟩
theorem ok_raiseN {f O C pP fP D fI : Addr} {fd fdP fdI : FuncData} (F : Fun K "raise_order" "Office.raise_order" s_Office_raise_order f fd) (T : OffT K O) (pO : PropOf K O "present_orders" pP fP) (GP : FnOk P w K mg base CX0 1 fP fdP P_Office_present_orders (spPres O C)) (bP : Binds K fdP P_Office_present_orders [])
    (gI : mg "check_index" = some (.ref fI)) (kI : PySem.W.keepIn K (.ref fI) = true) (bI : Binds K fdI P_check_index []) (GI : FnOk P w K mg base (L2N.CX P w) 3 fI fdI P_check_index (spChkIxX D)) : FnOk P w K mg base (L2N.CX P w) 4 f fd P_Office_raise_order (spIxX O C D) := by
  refine okN F sc_Office_raise_order (fun vs H Q E h => ?_) (fun cdv A outer s H vs Q E hr h => ?_)
  · obtain ⟨o, i, S, rfl, _⟩ := h
    rfl
  · obtain ⟨o, i, S, rfl, A, hi, q⟩ := h
    have hr2 : Room 2 _ := hr.mono (by decide)
    refine ⟨_, pss_cons (ps_set (i := 2) sc_Office_raise_order.nd rfl (.inl rfl) (pe_prop (pv 0) T.cl pO GP hr2 bP .nil pass0 rfl))
      (pss_cons (ps_expr (pe_call (E := E) GI hr (by rfl) gI kI bI .nil (L2N.passes_call (L2N.takes_of rfl rfl rfl rfl) fun _ _ _ _ z => z) (pa_cons (pv 2) (pa_cons (pv 1) pa_nil))))
      (pss_one ps_never)), ?_⟩
    obtain ⟨dx, fs, u, vs, ho, R, _⟩ := id A
    refine ⟨_, rfl, o, dx, fs, rfl, ho, o, S, rfl, A, fun t hO => ?_⟩
    obtain ⟨ts, ht, hP⟩ := id hO
    exact ⟨_, rfl, _, rfl, t, i, ts, rfl, ht, by rw [hP.length]; exact hi, q⟩
theorem ok_prolongN {f O C pP fP D DI fI : Addr} {fd fdP fdI : FuncData} (F : Fun K "prolong" "Office.prolong" s_Office_prolong f fd) (T : OffT K O) (TN : NetT K C) (ERI : ErrR K mg "InvalidOrder" DI) (pO : PropOf K O "present_orders" pP fP) (GP : FnOk P w K mg base CX0 1 fP fdP P_Office_present_orders (spPres O C)) (bP : Binds K fdP P_Office_present_orders [])
    (gI : mg "check_index" = some (.ref fI)) (kI : PySem.W.keepIn K (.ref fI) = true) (bI : Binds K fdI P_check_index []) (GI0 : FnOk P w K mg base CX0 3 fI fdI P_check_index spChkIx) (GIX : FnOk P w K mg base (L2N.CX P w) 3 fI fdI P_check_index (spChkIxX D))
    (DO : Df P w K mg base "is_order" 3 P_is_order (spIsOrder K)) : FnOk P w K mg base (L2N.CX P w) 4 f fd P_Office_prolong (spProlongX O C D DI) := by
  obtain ⟨fO, fdO, gO, kO, bO, GO⟩ := DO
  have GI := FnOk.or (upN GI0) GIX
  refine okN F sc_Office_prolong (fun vs H Q E h => ?_) (fun cdv A outer s H vs Q E hr h => ?_)
  · obtain ⟨o, i, n, S, rfl, _⟩ := h
    rfl
  · obtain ⟨o, i, n, S, rfl, A, hc⟩ := h
    have hr2 : Room 2 _ := hr.mono (by decide)
    refine ⟨_, pss_cons (ps_set (i := 3) sc_Office_prolong.nd rfl (.inl rfl) (pe_prop (pv 0) T.cl pO GP hr2 bP .nil pass0 rfl))
      (pss_cons (ps_expr (pe_call (E := E) GI hr (by rfl) gI kI bI .nil (L2N.passes_call (L2N.takes_of rfl rfl rfl rfl) fun _ _ _ _ z => z) (pa_cons (pv 3) (pa_cons (pv 1) pa_nil))))
      (pss_cons (ps_asg (pe_ix ix_tup (pv 3) (pv 1) (fun _ _ => rfl)) (pg_tup (by rfl) (pgs_cons (pg_name (i := 4) sc_Office_prolong.nd rfl (.inl rfl)) (pgs_cons (pg_name (i := 5) sc_Office_prolong.nd rfl (.inl rfl)) (pgs_cons (pg_name (i := 6) sc_Office_prolong.nd rfl (.inl rfl)) (pgs_cons (pg_name (i := 7) sc_Office_prolong.nd rfl (.inl rfl)) (pgs_cons (pg_name (i := 8) sc_Office_prolong.nd rfl (.inl rfl)) pgs_nil)))))))
      (pss_cons (ps_set (i := 9) sc_Office_prolong.nd rfl (.inl rfl) (pe_tup (pa_cons (pv 4) (pa_cons (pv 5) (pa_cons (pv 6) (pa_cons (pv 2) (pa_cons (pv 8) pa_nil)))))))
      (pss_cons (ps_if (pt_not (pt_val (pe_call GO hr (by rfl) gO kO bO .nil pass0 (pa_cons (pe_fld (pe_fld (pv 0) rfl) rfl) (pa_cons (pe_fld (pe_fld (pv 0) rfl) rfl) (pa_cons (pv 9) pa_nil)))))) (pss_one (L2N.ps_raise rfl (L2N.takes_of rfl rfl rfl rfl) (pmk_errN ERI (by rfl)))) pss_nil)
      (pss_cons ps_never (pss_one ps_never)))))), ?_⟩
    obtain ⟨dx, fs, u, vs, ho, R, hu, hPv, he, N, no⟩ := id A
    obtain ⟨dxn, fl, as, _, hx, _⟩ := id N
    refine ⟨_, rfl, o, dx, fs, rfl, ho, o, S, rfl, A, fun t hO => ?_⟩
    obtain ⟨ts, ht, hP⟩ := id hO
    have tl := hP.length
    rcases hc with ⟨hi, q⟩ | ⟨k, od, rfl, hk, hb, q⟩
    · exact ⟨_, rfl, _, rfl, .inr ⟨t, i, ts, rfl, ht, by rw [tl]; exact hi, q⟩⟩
    · have lt : k < S.cur.length := (List.getElem?_eq_some_iff.mp hk).1
      refine ⟨_, rfl, _, rfl, .inl ⟨t, k, ts, rfl, ht, by omega, ?_⟩⟩
      obtain ⟨v, hv, u0, rfl, hu0⟩ := Paired.get? (i := k) hP hk
      refine ⟨_, rfl, _, rfl, t, ts, k, _, rfl, rfl, SqT.of ht, atI_nat (j := k) hv, ?_⟩
      refine ⟨u0, _, rfl, SqT.of hu0, rfl, _, _, rfl, _, _, rfl, _, _, rfl, _, _, rfl, _, _, rfl, rfl, ?_⟩
      refine ⟨_, rfl, _, rfl, _, rfl, _, rfl, _, rfl, (by show 5 ≤ sizeLine; decide), fun u1 nu1 => ?_⟩
      have s1 := same_upd (o := HO.tup [.int od.s, .int od.t, .int od.f, .int n, .int od.e]) nu1
      have hv1 : OrdAt (upd H u1 (.tup [.int od.s, .int od.t, .int od.f, .int n, .int od.e])) (.ref u1) (proO od n) := ⟨u1, rfl, upd_same⟩
      refine ⟨_, rfl, o, O, dx, fs, _, rfl, s1 _ _ ho, T.cl, T.nN, R.net, S.x, C, dxn, _, _, rfl, s1 _ _ hx, TN.cl, TN.nP, nf_pe, _, rfl, o, O, dx, fs, _, rfl, s1 _ _ ho, T.cl, T.nN, R.net, S.x, C, dxn, _, _, rfl, s1 _ _ hx, TN.cl, TN.nH, nf_ho, _, rfl, _, _, _, _, rfl, hv1.likeB, _, rfl, ?_⟩
      rw [hb]
      exact iteT (q _ s1)
end
/-! ### execute raises -/
section
variable {P : Program} {w : World} {K : PySem.W.Frag} {mg : Str → Option Value} {base : Heap}
theorem ok_execN {f O C f1 f2 f3 f4 : Addr} {cE : Nat → Addr} {fd d1 d2 d3 d4 : FuncData} (F : Fun K "execute" "Office.execute" s_Office_execute f fd) (T : OffT K O)
    (m1 : Meth K O "add" f1) (G1 : FnOk P w K mg base (L2N.CX P w) 4 f1 d1 P_Office_add (spAddX O C (cE 4) (cE 5))) (b1 : Binds K d1 P_Office_add []) (m2 : Meth K O "cancel" f2) (G2 : FnOk P w K mg base (L2N.CX P w) 4 f2 d2 P_Office_cancel (spIxX O C (cE 2))) (b2 : Binds K d2 P_Office_cancel [])
    (m3 : Meth K O "prolong" f3) (G3 : FnOk P w K mg base (L2N.CX P w) 4 f3 d3 P_Office_prolong (spProlongX O C (cE 2) (cE 4))) (b3 : Binds K d3 P_Office_prolong []) (m4 : Meth K O "raise_order" f4) (G4 : FnOk P w K mg base (L2N.CX P w) 4 f4 d4 P_Office_raise_order (spIxX O C (cE 2))) (b4 : Binds K d4 P_Office_raise_order []) : FnOk P w K mg base (L2N.CX P w) 5 f fd P_Office_execute (spDoX O C cE) := by
  refine okN F sc_Office_execute (fun vs H Q E h => ?_) (fun cdv A outer s H vs Q E hr h => ?_)
  · obtain ⟨o, a, op, S, i, rfl, _⟩ := h
    rfl
  · obtain ⟨o, a, op, S, i, rfl, W0, nok, ha, wf, he, q⟩ := h
    refine ⟨_, (pss_cons (ps_set (i := 2) sc_Office_execute.nd rfl (.inl rfl) (pe_ix ix_tup (pv 1) pe_int (fun _ _ => rfl)))
      (pss_cons (ps_if (pt_cmpR op_eq (pv 2) pe_str (nomark _)) (pss_one (ps_ret (pe_meth (E := E) (pv 0) T.cl m1 G1 hr b1 .nil (L2N.passes_call (L2N.takes_of rfl rfl rfl rfl) fun _ _ _ _ z => z) (pa_cons (pe_ix ix_tup (pv 1) pe_int (fun _ _ => rfl)) pa_nil)))) pss_nil)
      (pss_cons (ps_if (pt_cmpR op_eq (pv 2) pe_str (nomark _)) (pss_one (ps_ret (pe_meth (E := E) (pv 0) T.cl m2 G2 hr b2 .nil (L2N.passes_call (L2N.takes_of rfl rfl rfl rfl) fun _ _ _ _ z => z) (pa_cons (pe_ix ix_tup (pv 1) pe_int (fun _ _ => rfl)) pa_nil)))) pss_nil)
      (pss_cons (ps_if (pt_cmpR op_eq (pv 2) pe_str (nomark _)) (pss_one (ps_ret (pe_meth (E := E) (pv 0) T.cl m3 G3 hr b3 .nil (L2N.passes_call (L2N.takes_of rfl rfl rfl rfl) fun _ _ _ _ z => z) (pa_cons (pe_ix ix_tup (pv 1) pe_int (fun _ _ => rfl)) (pa_cons (pe_ix ix_tup (pv 1) pe_int (fun _ _ => rfl)) pa_nil))))) pss_nil)
      (pss_cons (ps_if (pt_cmpR op_eq (pv 2) pe_str (nomark _)) (pss_one (ps_ret (pe_meth (E := E) (pv 0) T.cl m4 G4 hr b4 .nil (L2N.passes_call (L2N.takes_of rfl rfl rfl rfl) fun _ _ _ _ z => z) (pa_cons (pe_ix ix_tup (pv 1) pe_int (fun _ _ => rfl)) pa_nil)))) pss_nil)
      (pss_cons ps_never (pss_one ps_never))))))), ?_⟩
    obtain ⟨dx, fs, u, vs, ho, R, _⟩ := id W0
    have n1 : fs.lookup ("add" : Str) = none := R.no _ (by decide +kernel) (by decide +kernel) (by decide +kernel) (by decide +kernel)
    have n2 : fs.lookup ("cancel" : Str) = none := R.no _ (by decide +kernel) (by decide +kernel) (by decide +kernel) (by decide +kernel)
    have n3 : fs.lookup ("prolong" : Str) = none := R.no _ (by decide +kernel) (by decide +kernel) (by decide +kernel) (by decide +kernel)
    have n4 : fs.lookup ("raise_order" : Str) = none := R.no _ (by decide +kernel) (by decide +kernel) (by decide +kernel) (by decide +kernel)
    cases op with
    | add od =>
      obtain ⟨v, hv, hvo⟩ := ha
      obtain ⟨w1, w2, w3, w4, w5, w6, w7, w8⟩ := wf
      refine ⟨_, rfl, a, _, 0, _, rfl, rfl, SqT.of hv, atI_nat (j := 0) rfl, _, rfl, rfl, _, rfl, str_eqT ⟨_, rfl, o, dx, fs, rfl, ho, n1, _, rfl, a, _, 1, _, rfl, rfl, SqT.of hv, atI_nat (j := 1) rfl, o, v, od, S, rfl, W0, hvo, ?_, fun hb => ?_, fun hb h20 => ?_⟩⟩
      · by_cases c : S.p < od.n
        · exact .inl (orderB_n c)
        · refine .inr ⟨⟨w1, w2, w3, w4, w5, by omega, w7, w8⟩, ?_⟩
          have he : (if S.p < od.n then some 4 else if S.cur.length = 20 then some 5 else none) = some i := he
          rw [if_neg c] at he
          by_cases c2 : S.cur.length = 20
          · exact c2
          · rw [if_neg c2] at he
            cases he
      · have c : S.p < od.n := by
          by_cases c : S.p < od.n
          · exact c
          · rw [orderB_ok ⟨w1, w2, w3, w4, w5, by omega, w7, w8⟩] at hb
            cases hb
        have he : (if S.p < od.n then some 4 else if S.cur.length = 20 then some 5 else none) = some i := he
        rw [if_pos c] at he
        cases he
        exact q H (.refl H)
      · have c : ¬ S.p < od.n := by
          have := hb.n
          omega
        have he : (if S.p < od.n then some 4 else if S.cur.length = 20 then some 5 else none) = some i := he
        rw [if_neg c, if_pos h20] at he
        cases he
        exact q H (.refl H)
    | cancel k =>
      have hv : H a = some (.tup [.str "cancel", .int k]) := ha
      have he : (if inIx k S.cur then none else some 2) = some i := he
      by_cases c : inIx k S.cur
      · rw [if_pos c] at he
        cases he
      rw [if_neg c] at he
      cases he
      exact ⟨_, rfl, a, _, 0, _, rfl, rfl, SqT.of hv, atI_nat (j := 0) rfl, _, rfl, rfl, _, rfl, str_eqF (by decide +kernel) ⟨_, rfl, rfl, _, rfl, str_eqT ⟨_, rfl, o, dx, fs, rfl, ho, n2, _, rfl, a, _, 1, _, rfl, rfl, SqT.of hv, atI_nat (j := 1) rfl, o, k, S, rfl, W0, c, q H (.refl H)⟩⟩⟩
    | prolong k n =>
      have hv : H a = some (.tup [.str "prolong", .int k, .int n]) := ha
      replace he : (if inIx k S.cur then (if 1 ≤ n ∧ n ≤ S.p then none else some 4) else some 2) = some i := he
      have wf : n ≤ S.p + 1 := wf
      refine ⟨_, rfl, a, _, 0, _, rfl, rfl, SqT.of hv, atI_nat (j := 0) rfl, _, rfl, rfl, _, rfl, str_eqF (by decide +kernel) ⟨_, rfl, rfl, _, rfl, str_eqF (by decide +kernel) ⟨_, rfl, rfl, _, rfl, str_eqT ⟨_, rfl, o, dx, fs, rfl, ho, n3, _, rfl, a, _, 1, _, rfl, rfl, SqT.of hv, atI_nat (j := 1) rfl, _, rfl, a, _, 2, _, rfl, rfl, SqT.of hv, atI_nat (j := 2) rfl, o, k, n, S, rfl, W0, ?_⟩⟩⟩⟩
      by_cases c : inIx k S.cur
      · rw [if_pos c] at he
        obtain ⟨kk, rfl⟩ : ∃ kk : Nat, k = (kk : Int) := ⟨k.toNat, (Int.toNat_of_nonneg c.1).symm⟩
        have lt : kk < S.cur.length := by
          have := c.2
          omega
        by_cases c2 : 1 ≤ n ∧ n ≤ S.p
        · rw [if_pos c2] at he
          cases he
        · rw [if_neg c2] at he
          cases he
          refine .inr ⟨kk, S.cur[kk], rfl, List.getElem?_eq_getElem lt, ?_, q⟩
          exact orderB_bad (od := proO S.cur[kk] n) c2
      · rw [if_neg c] at he
        cases he
        exact .inl ⟨c, q H (.refl H)⟩
    | rais k =>
      have hv : H a = some (.tup [.str "raise", .int k]) := ha
      have he : (if inIx k S.cur then none else some 2) = some i := he
      by_cases c : inIx k S.cur
      · rw [if_pos c] at he
        cases he
      rw [if_neg c] at he
      cases he
      exact ⟨_, rfl, a, _, 0, _, rfl, rfl, SqT.of hv, atI_nat (j := 0) rfl, _, rfl, rfl, _, rfl, str_eqF (by decide +kernel) ⟨_, rfl, rfl, _, rfl, str_eqF (by decide +kernel) ⟨_, rfl, rfl, _, rfl, str_eqF (by decide +kernel) ⟨_, rfl, rfl, _, rfl, str_eqT ⟨_, rfl, o, dx, fs, rfl, ho, n4, _, rfl, a, _, 1, _, rfl, rfl, SqT.of hv, atI_nat (j := 1) rfl, o, k, S, rfl, W0, c, q H (.refl H)⟩⟩⟩⟩⟩
    | undo => cases he
    | redo => cases he
end
/-! ### an element of a comprehension raises: the comprehension passes it on -/
section
open PySem.Spec PyProof.Rows
/-- what is done behind the loop, for the one frame that it is done in -/
def compPostE (M : Model) (A : Around) (E : Value → Shared → Prop) (use : Option (Value → Sem Unit)) (Q : Value → Shared → Prop) (acc : Value) (ce : Env) (r : Result) (s' : Shared) : Prop :=
  match r, use with
  | .ok _, none => ∃ m, s'.heap.Ns ce.locals m ∧ ∀ h', Heap.SameBut ce.locals s'.heap h' → Q acc { s' with heap := h' }
  | .ok _, some u => wpAny M A (u acc) (fun _ s'' => ∃ m, s''.heap.Ns ce.locals m ∧ ∀ h', Heap.SameBut ce.locals s''.heap h' → Q .none { s'' with heap := h' }) E s'
  | .error x, _ => ∃ m, s'.heap.Ns ce.locals m ∧ ∀ h', Heap.SameBut ce.locals s'.heap h' → wpAny M A (PySem.passOn "comprehension.variables-let-go" x ce : Sem Value) (fun _ _ => False) E { s' with heap := h' }
theorem wpAny_comprehension_freeE {M : Model} {A : Around} {E : Value → Shared → Prop} {s : Shared} {env : Env} {e : Expr} {scope : Scope} {pos : Pos} {newAcc first : Sem Value} {g : Comprehension} {gs : List Comprehension} {cl : List (Str × Addr)} {use : Option (Value → Sem Unit)}
    {Q : Value → Shared → Prop}
    (hcl : clausesOf e = g :: gs) (hs : ∀ x, foldedSetIterable g.iter env x = pure x) (hclos : closureFor scope env = pure cl)
    (hkind : scope.kind = .function) (hnames : ∀ x ∈ scope.names, x.2 = .local → scope.names.lookup x.1 = some .local)
    (h : wpAny M A first (fun x s₁ => wpAny M A (pyIter x) (fun it s₂ => wpAny M A newAcc (fun acc s₃ =>
      wpAny M A (newFunctionEnv scope env.globals cl [] env.qual none .none (some env)) (fun cenv s₄ =>
        codeAny M A (.compStart e 0 it acc { cenv with scope := relabel scope env }) (compPostE M A E use Q acc { cenv with scope := relabel scope env }) s₄) E s₃) E s₂) E s₁) E s) :
    wpAny M A (comprehension e scope env pos newAcc false first use) Q E s := by
  unfold comprehension
  rw [hclos, hcl]
  refine wpAny_bind (wpAny_mono h (fun x s₁ h₁ => wpAny_bind (wpAny_standAt (wpAny_bind (wpAny_of_eq (hs x) (wpAny_bind (wpAny_holding (wpAny_mono h₁ (fun it s₂ h₂ =>
    wpAny_standIf (wpAny_bind (wpAny_mono h₂ (fun acc s₃ h₃ => wpAny_bind (wpAny_pure (wpAny_bind (wpAny_mono h₃ (fun cenv s₄ h₄ => ?_) fun _ _ h' => h')))) fun _ _ h' => h')))
      fun _ _ h' => h'))))))) fun _ _ h' => h')
  dsimp only
  have hv : ∀ x ∈ (scope.names.filter fun x => (x.2 == .local || x.2 == .cell) && x.1 != (".0" : Str)).reverse, x.2 = .local →
      Env.kindOf { cenv with scope := relabel scope env } x.1 = some .local := fun x hx hl => lookup_relabel_local (hnames x (List.mem_filter.mp (List.mem_reverse.mp hx)).1 hl)
  have hv' : ∀ x ∈ (scope.names.filter fun x => (x.2 == .local || x.2 == .cell) && x.1 != (".0" : Str)).reverse.drop 1 ++ (scope.names.filter fun x => (x.2 == .local || x.2 == .cell) && x.1 != (".0" : Str)).reverse.take 1,
      x.2 = .local → Env.kindOf { cenv with scope := relabel scope env } x.1 = some .local := fun x hx hl => by
    rcases List.mem_append.mp hx with h1 | h1
    · exact hv x (List.mem_of_mem_drop h1) hl
    · exact hv x (List.mem_of_mem_take h1) hl
  refine wpAny_holding (wpAny_bind (wpAny_attempt (wpAny_holding (wpAny_run (codeAny_mono h₄ fun r s' hr => ?_)))))
  cases r with
  | ok f =>
    cases use with
    | none =>
      obtain ⟨m, hn, hr⟩ := hr
      exact wpAny_bind (wpAny_holding (wpAny_comp_letGo (cenv := { cenv with scope := relabel scope env }) hkind _ s' m hv hn fun h' m' _ hs' => wpAny_pure (hr h' hs')))
    | some u =>
      refine wpAny_bind (wpAny_rule (wpAny_bind (wpAny_holding (wpAny_mono hr (fun _ s'' hr' => ?_) fun _ _ h' => h'))))
      obtain ⟨m, hn, hr'⟩ := hr'
      exact wpAny_bind (wpAny_comp_letGo (cenv := { cenv with scope := relabel scope env }) hkind _ s'' m hv' hn fun h' m' _ hs' => wpAny_pure (hr' h' hs'))
  | error x =>
    have hr' : ∃ m, s'.heap.Ns cenv.locals m ∧ ∀ h', Heap.SameBut cenv.locals s'.heap h' → wpAny M A (PySem.passOn "comprehension.variables-let-go" x { cenv with scope := relabel scope env } : Sem Value) (fun _ _ => False) E { s' with heap := h' } := by cases use <;> exact hr
    obtain ⟨m, hn, hr⟩ := hr'
    exact wpAny_bind (wpAny_holding (wpAny_comp_letGo (cenv := { cenv with scope := relabel scope env }) hkind _ s' m hv hn fun h' m' _ hs' => wpAny_mono (hr h' hs') (fun _ _ f => f.elim) fun _ _ y => y))
variable {X : Cx} {pins : List (Addr × Obj)} {σ : L2.St} {H : Hp} {s s' : Shared} {B : Heap} {W : WX} {E : XK}
theorem XE.of_callS {a : Addr} {H' : Hp} {cls : Value} {d : Option Addr} (I : Inv X pins σ H s) (st : B.StaysIn s'.heap) (sky : Sky B X.stack a (Zc cls d) X.env.locals s'.heap) (hok : HOk X.prog X.w H' B) (ub : UB (frs X.stack) H H' s.heap B s'.heap) (na : H' a = none) (os : s'.os = s.os) (ag : AllBare s'.gens) (w : W cls d σ H') : XE X W (.ref a) s' := by
  obtain ⟨G, g1, g2⟩ := restrict s'.heap fun b => (B.get? b).isSome || decide (b ∈ frs X.stack)
  have gB : ∀ b o, B.get? b = some o → G.get? b = some o := fun b o e => by
    rw [g1 b (by simp [e])]
    exact st b o e
  have gF : ∀ b, b ∈ frs X.stack → G.get? b = s'.heap.get? b := fun b hb => g1 b (by simp [hb])
  have og : ∀ b o, G.get? b = some o → s'.heap.get? b = some o ∧ ((B.get? b).isSome = true ∨ b ∈ frs X.stack) := fun b o e => by
    cases q : ((B.get? b).isSome || decide (b ∈ frs X.stack)) with
    | false => rw [g2 b q] at e; cases e
    | true =>
      rw [g1 b q] at e
      exact ⟨e, by simpa [Bool.or_eq_true] using q⟩
  refine ⟨a, B, { s with heap := G, gens := s'.gens, drawn := s'.drawn, toks := s'.toks }, pins, σ, H', cls, d, rfl, ?_, fun b o e hb => ?_, Heap.UpToSlots.of_keeps fun b o e => (og b o e).1, sky, na, os, ag, w⟩
  · refine I.call (ch := []) ⟨fun b o e n hb _ => gB b o (ub.keep b o e n hb), fun b o e n hb _ => ?_, fun b o e n _ => ub.free b o e n, fun b o e _ => ?_, ub.tups, ub.frzs, ub.tbls⟩ (hok.kept gB) ag (fun _ z => nomatch z)
    · obtain ⟨sl, q⟩ := ub.slot b o e hb
      exact ⟨sl, by rw [gF b hb]; exact q⟩
    · by_cases hb : b ∈ frs X.stack
      · obtain ⟨sl, q⟩ := ub.slot b o e hb
        exact ⟨_, by rw [gF b hb]; exact q⟩
      · obtain ⟨o', q⟩ := ub.there b o e hb
        exact ⟨o', gB b o' q⟩
  · obtain ⟨e', h⟩ := og b o e
    rcases h with h | h
    · obtain ⟨o', q⟩ := Option.isSome_iff_exists.mp h
      have z := st b o' q
      rw [e'] at z; cases z
      exact q
    · exact absurd h hb
theorem funFrames_but {h h' base : Heap} {C : Addr} (sb : Heap.SameBut C h h') : ∀ {l : List Env}, h.FunFrames base l → C ∉ frs l → h'.FunFrames base l
  | [], _, _ => trivial
  | env :: l, x, n => by
    obtain ⟨hk, ⟨L, o, hf, hb, ho, hd⟩, hr⟩ := x
    have nL : L ≠ C := fun z => n (z ▸ List.mem_filterMap.mpr ⟨env, List.mem_cons_self, hf⟩)
    exact ⟨hk, ⟨L, o, hf, hb, (sb.2 L nL).trans ho, hd⟩, funFrames_but sb hr fun z => n (by
      obtain ⟨e, he, q⟩ := List.mem_filterMap.mp z
      exact List.mem_filterMap.mpr ⟨e, List.mem_cons_of_mem _ he, q⟩)⟩
/-- noted by the block's frame, the block's names let go, on its way again -/
theorem noted_comp {C : Addr} {ce : Env} {H' : Hp} {sI : Shared} {u : Value} {E1 : Value → Shared → Prop} (tk : Takes X W) (hs : X.stack = X.env :: X.outer) (hf : X.env.frame = some X.env.locals) (hce : ∀ v, noteFrame v ce = noteFrame v X.env) (hfr : ce.frame = X.env.frame) (hcl : ce.locals = C)
    (I : Inv X pins σ H' sI) (hn : ∃ m, sI.heap.Ns C m) (f : FpOk X pins H' C) (hW : ∀ cls d H2, E cls d H2 → W cls d σ H2) (c : L2.CX X.prog X.w X.stack H' sI E u s') :
    wpAny (model X.prog X.w) X.A (noteFrame u ce) (fun _ s'' => ∃ m, s''.heap.Ns ce.locals m ∧ ∀ h', Heap.SameBut ce.locals s''.heap h' → wpAny (model X.prog X.w) X.A (PySem.passOn "comprehension.variables-let-go" u ce : Sem Value) (fun _ _ => False) X.xe { s'' with heap := h' }) E1 s' := by
  obtain ⟨a, B, H2, cls, d, rfl, fl, hok, ub, na, os, ag, hE⟩ := c
  obtain ⟨m, hm⟩ := hn
  have hfra : X.A.frames = some (X.env :: X.outer) := by rw [I.ok.frames, hs]
  obtain ⟨f0, f1, f2, f3, f4, f5⟩ := f
  have nC : C ∉ frs X.stack := fun hm' => by
    rcases List.mem_cons.mp (I.stkSub C hm') with z | z
    · exact f1 z
    · exact f2 z
  obtain ⟨oC, hoC⟩ : ∃ oC, sI.heap.get? C = some oC := by
    obtain ⟨o, es, n, h1, h2⟩ := hm
    exact ⟨o, h1⟩
  have hBC := ub.keep C oC hoC f0 nC
  have kC : ∀ {h : Heap}, B.StaysIn h → h.Ns C m := fun {h} st => by
    obtain ⟨o, es, n, h1, h2⟩ := hm
    obtain rfl : o = oC := Option.some.inj (h1.symm.trans hoC)
    exact ⟨o, es, n, st _ _ hBC, h2⟩
  rw [hce, hcl]
  rw [hs] at fl
  refine HandSPX.looks_onZ Zc.steady hfra hf fl fun h1 hh up => ?_
  have hh0 := hh
  obtain ⟨k1, k2, k3, oe, vs, T, oT, ts, he, hz, hd, e1, hnT, hTe, hT, hdT, e3⟩ := hh
  refine ⟨m, kC k1, fun h2 sb => ?_⟩
  have naC : a ≠ C := fun z => by rw [z, hBC] at k2; cases k2
  have nTC : T ≠ C := fun z => by rw [z, hBC] at hnT; cases hnT
  have sb2 : ∀ b, b ≠ C → h2.get? b = h1.get? b := sb.2
  let B0 := PySem.W.hideAll B [C]
  have b0B : ∀ b o, B0.get? b = some o → B.get? b = some o ∧ b ≠ C := fun b o e => ⟨PySem.W.of_hideAll _ e, fun z => by
    rw [z] at e
    rw [PySem.W.hideAll_none [C] List.mem_cons_self] at e
    cases e⟩
  have toB0 : ∀ b o, B.get? b = some o → b ≠ C → B0.get? b = some o := fun b o e n => PySem.W.hideAll_get [C] e (by simpa using n)
  have noneB0 : ∀ b, B.get? b = none → B0.get? b = none := fun b e => by
    cases q : B0.get? b with
    | none => rfl
    | some o => rw [(b0B b o q).1] at e; cases e
  have hh2 : HandSPX.HeldZ B0 (X.env :: X.outer) a (Zc cls d) X.env.locals h2 := by
    refine ⟨fun b o e => ?_, noneB0 a k2, ?_, oe, vs, T, oT, ts, (sb2 a naC).trans he, hz, hd, e1, noneB0 T hnT, hTe, (sb2 T nTC).trans hT, hdT, e3⟩
    · obtain ⟨z1, z2⟩ := b0B b o e
      exact (sb2 b z2).trans (k1 b o z1)
    · refine funFrames_but sb (funFrames_none k3 fun L hL => noneB0 L (k3.mem hL).1) ?_
      rw [← hs]
      exact nC
  unfold PySem.passOn
  refine wpAny_bind (wpAny_field ((sb2 a naC).trans he) hd e1 ?_)
  rw [if_neg (show ¬ ((Value.ref T == Value.none) = true) from by simp)]
  refine wpAny_bind ?_
  rw [hfr, hf]
  refine HandSPX.setFlight_onZ hh2 fun h3 hh3 up3 => wpAny_throw ?_
  refine tk _ _ ?_
  have I0 : Inv X pins σ H' { sI with heap := PySem.W.hideAll sI.heap [C], toks := sI.toks } := I.turned (it := C) (fun b o n e => PySem.W.hideAll_get [C] e (by simpa using n)) f0 f1 f3 f4 f5
  have toI : ∀ b o, (PySem.W.hideAll sI.heap [C]).get? b = some o → sI.heap.get? b = some o ∧ b ≠ C := fun b o e => ⟨PySem.W.of_hideAll _ e, fun z => by
    rw [z] at e
    rw [PySem.W.hideAll_none [C] List.mem_cons_self] at e
    cases e⟩
  have H2C : H2 C = none := ub.free C oC hoC f0
  refine XE.of_callS (B := B0) (H' := H2) I0 hh3.1 (by rw [hs]; exact .inr (.inr hh3)) ?_ ⟨fun b o e n hb => ?_, fun b o e hb => ?_, fun b o e n => ub.free b o (toI b o e).1 n, fun b o e hb => ?_, ub.tups, ub.frzs, ub.tbls⟩ na os ag (hW _ _ _ hE)
  · intro b o q
    refine (hok b o q).stay (fun c u hc r => toB0 c u r fun z => ?_) (fun _ r => r) fun _ _ r => r
    rcases hc with hc | hc
    · rw [← hc, z, H2C] at q; cases q
    · rw [z, H2C] at hc; cases hc
  · obtain ⟨z1, z2⟩ := toI b o e
    exact toB0 b o (ub.keep b o z1 n hb) z2
  · obtain ⟨z1, z2⟩ := toI b o e
    obtain ⟨sl, q⟩ := ub.slot b o z1 hb
    obtain ⟨o', ho', nf⟩ := (fl.2.2.1.mem (by rw [← hs]; exact hb)).2
    obtain rfl : o' = { o with slots := sl } := Option.some.inj (ho'.symm.trans q)
    obtain ⟨sl2, q2⟩ := up b _ q nf
    obtain ⟨sl3, q3⟩ := up3 b _ ((sb2 b z2).trans q2) nf
    exact ⟨sl3, q3⟩
  · obtain ⟨z1, z2⟩ := toI b o e
    obtain ⟨o', q⟩ := ub.there b o z1 hb
    exact ⟨o', toB0 b o' q z2⟩
end
/-! ### a comprehension whose element may raise -/
section
open PySem.Spec PyProof.Rows
abbrev _root_.L2.Cx.blkE (X : Cx) (s : Shared) (H : Hp) (scope : Scope) (cenv : Env) (fp : List Addr) (xe : Value → Shared → Prop) : Cx := { X with s_0 := s, H_0 := H, env := cenv, outer := X.stack, ex := fp, fn := fun x => scope.names.lookup x == some .cell, pn := [], xe := xe }
def tLcX (W : WX) (wi : TI) (g : TG) (tt : TT) (te : XK → TE) (vs : List Nat) : TE := fun σ H Q => tLc wi g tt (te fun cls d H' => W cls d σ H') vs σ H Q
variable {X : Cx}
set_option maxHeartbeats 0 in
theorem lcX_core {pins : List (Addr × Obj)} {s : Shared} {σ : L2.St} {H : Hp} {Q : VK} {elt tg iter : Expr} {ifs : List Expr} {scope : Scope} {own : List (Str × Nat)} {pos pos' : Pos} {wi : TI} {g : TG} {tt : TT} {te : XK → TE} {W : WX} {use : Option (Value → Sem Unit)} {Qf : Value → Shared → Prop}
    (tk : Takes X W) (hst : X.stack = X.env :: X.outer) (hfm : X.env.frame = some X.env.locals)
    (hc : X.calm = true) (hN : X.N.Nodup) (I : Inv X pins σ H s) (hi : PI X tg iter wi) (ok : BlkOk X.N X.env.scope scope own)
    (hg : ∀ (s : Shared) (H : Hp) (C : Addr) (cl : List (Str × Addr)) (fp : List Addr) (xe : Value → Shared → Prop), PG (X.blkE s H scope (compEnvC scope cl C X.env) fp xe) tg g) (ht : ∀ (s : Shared) (H : Hp) (C : Addr) (cl : List (Str × Addr)) (fp : List Addr) (xe : Value → Shared → Prop), PTs (X.blkE s H scope (compEnvC scope cl C X.env) fp xe) ifs tt)
    (he : ∀ (E : XK) (s : Shared) (H : Hp) (C : Addr) (cl : List (Str × Addr)) (fp : List Addr) (xe : Value → Shared → Prop), Passes (L2.CX X.prog X.w) (X.blkE s H scope (compEnvC scope cl C X.env) fp xe) E → PE (X.blkE s H scope (compEnvC scope cl C X.env) fp xe) elt (te E)) (hs : ∀ x, foldedSetIterable iter X.env x = pure x)
    (h : tLcX W wi g tt te (own.map (·.2)) σ H Q)
    (hRR : ∀ D C s' m H', Inv X pins σ H' s' → Q (.ref D) H' → s'.heap.Ns C m → FpOk X pins H' C → ∀ ce : Env, ce.locals = C → compPostE (model X.prog X.w) X.A X.xe use Qf (.ref D) ce (.ok .next) s') :
    wpAny (model X.prog X.w) X.A (comprehension (.ListComp elt [⟨tg, iter, ifs, 0⟩] scope pos) scope X.env pos' (newList []) false (eval iter X.env) use) Qf X.xe s := by
  have hfree : ∀ y ∈ scope.names, y.2 = .free → ∃ c, X.env.cells.lookup y.1 = some c := fun y hy e => by
    rcases ok.free y hy e with k | k
    · exact I.ok.has _ (.inl k)
    · exact I.ok.has _ (.inr k)
  refine wpAny_comprehension_freeE (use := use) rfl hs (closure_ok hfree) ok.kind (fun y hy e => by rw [ok.uniq y hy, e])
    (thn (hi.run pins s σ H _ I h) fun xv s1 hx => thn hx fun itv s2 h2 => ?_)
  obtain ⟨it, fp, tn, J, H2, e, I2, T, st2, f2, q⟩ := h2
  subst e
  refine wpAny_newObj_type (newEnv_comp ?_) (by show 0 ≤ sizeLine; decide)
  generalize hD : s2.heap.objs.size = D
  have hDn : H2 D = none := I2.hok.fresh (Nat.le_of_eq hD)
  obtain ⟨W2, ⟨m0, w0⟩, turn⟩ := q D hDn
  generalize hs3 : ({ s2 with heap := s2.heap.push { cls := .type "list", data := .seq ([] : List Value).toArray } } : Shared) = s3
  have I3 : Inv X pins σ (L2.upd H2 D (.lst [])) s3 := by
    rw [← hs3]
    refine I2.laid (t' := s2.toks) (fun b o e => Heap.get?_push_of_some _ e) (Nat.le_of_eq hD) ⟨Nat.zero_le _, [], 0, .nil, ?_⟩
    rw [← hD]
    exact Heap.get?_push_size _ rfl
  have h3 : s3.heap = s2.heap.push { cls := .type "list", data := .seq ([] : List Value).toArray } := by rw [← hs3]
  have sz : ∀ b ∈ fp, b < s2.heap.objs.size := fun b hb => by
    obtain ⟨o, e, _⟩ := T.obj _ _ st2 b hb
    exact Heap.lt_size e
  have f3 : ∀ b ∈ fp, FpOk X pins (L2.upd H2 D (.lst [])) b ∧ b < s3.heap.objs.size := fun b hb => by
    have hlt := sz b hb
    refine ⟨⟨?_, (f2 b hb).2⟩, by rw [h3, Heap.size_push]; exact Nat.lt_succ_of_lt hlt⟩
    rw [upd_ne (by rw [← hD]; exact Nat.ne_of_lt hlt)]
    exact (f2 b hb).1
  have st3 : tn 0 s3.heap := T.keep _ _ _ st2 fun b _ o e => by rw [h3]; exact Heap.get?_push_of_some _ e
  have nfp : ∀ b ∈ fp, (L2.upd H2 D (.lst [])) b = none := fun b hb => (f3 b hb).1.1
  have I4 := block_start I3 ok hN f3
  show codeAny _ _ (.compStart (.ListComp elt [⟨tg, iter, ifs, 0⟩] scope pos) 0 (.ref it) (.ref D) (compEnvC scope (cellsFrom (s3.heap.objs.size + 1) scope.names (cloFrom X.env.cells scope.names [])) s3.heap.objs.size X.env)) (compPostE (model X.prog X.w) X.A X.xe use Qf (.ref D) (compEnvC scope (cellsFrom (s3.heap.objs.size + 1) scope.names (cloFrom X.env.cells scope.names [])) s3.heap.objs.size X.env)) { s3 with heap := pushCells (s3.heap.push { cls := .type "dict", data := .dict #[] }) scope.names }
  have pg0 := fun xe => hg s3 (L2.upd H2 D (.lst [])) s3.heap.objs.size (cellsFrom (s3.heap.objs.size + 1) scope.names (cloFrom X.env.cells scope.names [])) fp xe
  have pt0 := fun xe => ht s3 (L2.upd H2 D (.lst [])) s3.heap.objs.size (cellsFrom (s3.heap.objs.size + 1) scope.names (cloFrom X.env.cells scope.names [])) fp xe
  have pe0 := fun xe => he (fun cls d H' => W cls d σ H') s3 (L2.upd H2 D (.lst [])) s3.heap.objs.size (cellsFrom (s3.heap.objs.size + 1) scope.names (cloFrom X.env.cells scope.names [])) fp xe
  have ceN : ∀ v, noteFrame v (compEnvC scope (cellsFrom (s3.heap.objs.size + 1) scope.names (cloFrom X.env.cells scope.names [])) s3.heap.objs.size X.env) = noteFrame v X.env := fun v => rfl
  have ceF : (compEnvC scope (cellsFrom (s3.heap.objs.size + 1) scope.names (cloFrom X.env.cells scope.names [])) s3.heap.objs.size X.env).frame = X.env.frame := rfl
  have cL : (compEnvC scope (cellsFrom (s3.heap.objs.size + 1) scope.names (cloFrom X.env.cells scope.names [])) s3.heap.objs.size X.env).locals = s3.heap.objs.size := rfl
  generalize hce : compEnvC scope (cellsFrom (s3.heap.objs.size + 1) scope.names (cloFrom X.env.cells scope.names [])) s3.heap.objs.size X.env = ce at I4 pg0 pt0 pe0 ceN ceF cL ⊢
  generalize hH3 : L2.upd H2 D (.lst []) = H3 at I3 I4 pg0 pt0 pe0 w0 nfp f3
  generalize hs4 : ({ s3 with heap := pushCells (s3.heap.push { cls := .type "dict", data := .dict #[] }) scope.names } : Shared) = s4 at I4 ⊢
  have st4 : tn 0 s4.heap := T.keep _ _ _ st3 fun b _ o e => by rw [← hs4]; exact pushCells_keeps _ _ _ _ (Heap.get?_push_of_some _ e)
  -- what may fly in the block
  let xe : Value → Shared → Prop := fun e s' => ∃ (H' : Hp) (sI : Shared), Inv X pins σ H' sI ∧ (∃ m, sI.heap.Ns s3.heap.objs.size m) ∧ FpOk X pins H' s3.heap.objs.size ∧ L2.CX X.prog X.w X.stack H' sI (fun cls d H2 => W cls d σ H2) e s'
  let R : Result → Shared → Prop := compPostE (model X.prog X.w) X.A X.xe use Qf (.ref D) ce
  have noted : ∀ e s', xe e s' → notedBy (model X.prog X.w) X.A ce (fun e s' => R (.error e) s') e s' := fun e s' ⟨H', sI, J1, J2, J3, c⟩ => noted_comp (E := fun cls d H2 => W cls d σ H2) tk hst hfm ceN ceF cL J1 J2 J3 (fun _ _ _ z => z) c
  have back : ∀ {pinsB : List (Addr × Obj)} {σ' : L2.St} {H' : Hp} {s' : Shared}, Inv (X.blkE s3 H3 scope ce fp xe) pinsB σ' H' s' → Inv X pins σ H' s' ∧ (∃ m, s'.heap.Ns s3.heap.objs.size m) ∧ FpOk X pins H' s3.heap.objs.size := fun {pinsB σ' H' s'} I6 => by
    have nC : H' s3.heap.objs.size = none := by
      have z : H' ce.locals = none := I6.free
      rw [cL] at z
      exact z
    obtain ⟨m, hn, _⟩ := I6.loc
    have hn : s'.heap.Ns ce.locals m := hn
    rw [cL] at hn
    exact ⟨I3.call' (ch := fp) I6.os I6.base I6.hok I6.bare fun b hb => ⟨(f3 b hb).1.2.2.2.1, (f3 b hb).1.2.1, (f3 b hb).1.2.2.2.2.1, (f3 b hb).1.2.2.2.2.2⟩, ⟨m, hn⟩, I3.fpOk (Nat.le_refl _) nC⟩
  have pg := pg0 xe
  have pt := pt0 xe
  have pe := pe0 xe fun pinsB σ' H' sI e s' IB c => by
    obtain ⟨J1, J2, J3⟩ := back IB
    exact ⟨H', sI, J1, J2, J3, c⟩
  have I4 : Inv (X.blkE s3 H3 scope ce fp xe) [] (wipe σ (own.map (·.2))) H3 s4 := I4.toTry xe
  have stat : ∀ {σ' : L2.St} {H' : Hp} {s' : Shared}, Inv (X.blkE s3 H3 scope ce fp xe) [] σ' H' s' → (∀ b ∈ fp, H' b = none) → ∀ b ∈ fp, FpOk (X.blkE s3 H3 scope ce fp xe) [] H' b := fun {σ' H' s'} I' hn b hb =>
    ⟨hn b hb, (I'.ok.exf b hb).1, I'.ok.exfs b hb, .inl hb, fun x c e => (I'.ok.exf b hb).2 x c e, fun p hp => absurd (show p ∈ ([] : List (Addr × Obj)) ++ [] from hp) (by simp)⟩
  have loop : codeAny (model X.prog X.w) X.A (.compLoop (.ListComp elt [⟨tg, iter, ifs, 0⟩] scope pos) 0 (.ref it) (.ref D) ce) R s4 := by
    refine compLoop_any (fun n s' => ∃ i H', Inv (X.blkE s3 H3 scope ce fp xe) [] (wipe σ (own.map (·.2))) H' s' ∧ tn i s'.heap ∧ (∀ b ∈ fp, H' b = none) ∧ W2 i n H') ?_ m0 ⟨0, H3, I4, st4, nfp, w0⟩
    rintro n s5 ⟨i, H5, I5, st5, n5, w5⟩
    rcases turn i n H5 w5 with ⟨stop, qq⟩ | ⟨go, Nx, hNx, step⟩
    · have td := T.done (X.blkE s3 H3 scope ce fp xe) rfl rfl rfl hc i [] s5 _ H5 (fun _ _ => False) I5 (stat I5 n5) st5 stop
      refine thnF td fun r s6 ⟨hr, I6⟩ => ?_
      subst hr
      obtain ⟨I7, ⟨m, hn⟩, f7⟩ := back I6
      exact hRR D s3.heap.objs.size s6 m H5 I7 qq hn f7 ce cL
    · have ti := T.item (X.blkE s3 H3 scope ce fp xe) rfl rfl rfl hc i [] s5 _ H5 (fun _ _ => False) I5 (stat I5 n5) st5 go
      refine thnF ti fun r s6 ⟨u, hr, h6⟩ => ?_
      subst hr
      refine thnF h6 fun _ s7 ⟨x, H7, I7, r7, y7, st7, n7⟩ => ?_
      have I7' := I7.pinned (stat I7 n7) (T.obj _ _ st7)
      refine wpAny_mono (pg.run _ s7 _ H7 x u _ I7' r7 (step x H7 y7)) (fun _ s8 ⟨σ8, H8, I8, hw8, q8⟩ => ?_) noted
      refine wpAny_mono (pt.run _ s8 σ8 H8 _ I8 q8) (fun b s9 ⟨H9, I9, q9⟩ => ?_) noted
      have fin : ∀ {s' : Shared} {H' : Hp}, Inv (X.blkE s3 H3 scope ce fp xe) ([] ++ pinsAt fp s7.heap) σ8 H' s' → Nx H' → ∃ m, m < n ∧ ∃ i H', Inv (X.blkE s3 H3 scope ce fp xe) [] (wipe σ (own.map (·.2))) H' s' ∧ tn i s'.heap ∧ (∀ b ∈ fp, H' b = none) ∧ W2 i m H' := fun {s' H'} I' nx => by
        obtain ⟨m', hm, w'⟩ := hNx H' nx
        have pin' : ∀ b ∈ fp, ∀ o, s7.heap.get? b = some o → s'.heap.get? b = some o ∧ H' b = none := fun b hb o e =>
          let z := I'.pin (b, o) (List.mem_append_right _ (List.mem_append_right _ (mem_pinsAt hb e)))
          ⟨z.1, z.2.1⟩
        have hl : (wipe σ (own.map (·.2))).length = σ8.length := by rw [← hw8, wipe_length]
        refine ⟨m', hm, i + 1, H', (I'.unpinned (pins := [])).weak hl (fun j v e => ?_), T.keep _ _ _ st7 fun b hb o e => (pin' b hb o e).1, fun b hb => ?_, w'⟩
        · rw [← hw8] at e
          exact (wipe_some e).1
        · obtain ⟨o, e, _⟩ := T.obj _ _ st7 b hb
          exact (pin' b hb o e).2
      cases b with
      | false =>
        simp only [Bool.false_eq_true, if_false] at q9 ⊢
        exact fin I9 q9
      | true =>
        simp only [if_true] at q9 ⊢
        refine wpAny_mono (pe.run _ s9 σ8 H9 _ I9 q9) (fun z s10 ⟨yv, H10, I10, r10, acc, hD10, hz10, nx⟩ => ?_) noted
        exact app_ok (X := X.blkE s3 H3 scope ce fp xe) I10 hD10 hz10 r10 fun s11 I11 => fin I11 nx
  exact codeAny_compStart_list loop (T.self X.A 0 _ _ _ st4 loop)
/-- as a value -/
theorem pe_lcX {elt tg iter : Expr} {ifs : List Expr} {scope : Scope} {own : List (Str × Nat)} {pos : Pos} {wi : TI} {g : TG} {tt : TT} {te : XK → TE} {W : WX} (tk : Takes X W) (hst : X.stack = X.env :: X.outer) (hfm : X.env.frame = some X.env.locals) (hc : X.calm = true) (hN : X.N.Nodup) (hi : PI X tg iter wi) (ok : BlkOk X.N X.env.scope scope own)
    (hg : ∀ (s : Shared) (H : Hp) (C : Addr) (cl : List (Str × Addr)) (fp : List Addr) (xe : Value → Shared → Prop), PG (X.blkE s H scope (compEnvC scope cl C X.env) fp xe) tg g) (ht : ∀ (s : Shared) (H : Hp) (C : Addr) (cl : List (Str × Addr)) (fp : List Addr) (xe : Value → Shared → Prop), PTs (X.blkE s H scope (compEnvC scope cl C X.env) fp xe) ifs tt)
    (he : ∀ (E : XK) (s : Shared) (H : Hp) (C : Addr) (cl : List (Str × Addr)) (fp : List Addr) (xe : Value → Shared → Prop), Passes (L2.CX X.prog X.w) (X.blkE s H scope (compEnvC scope cl C X.env) fp xe) E → PE (X.blkE s H scope (compEnvC scope cl C X.env) fp xe) elt (te E)) (hs : ∀ x, foldedSetIterable iter X.env x = pure x := by intro _; rfl) :
    PE X (.ListComp elt [⟨tg, iter, ifs, 0⟩] scope pos) (tLcX W wi g tt te (own.map (·.2))) := by
  refine ⟨fun pins s σ H Q I h => ?_⟩
  rw [eval_ListComp]
  refine lcX_core tk hst hfm hc hN I hi ok hg ht he hs h fun D C s' m H' I' q hn f ce hce => ⟨m, by rw [hce]; exact hn, fun h'' sb => ?_⟩
  rw [hce] at sb
  obtain ⟨f0, f1, f2, f3, f4, f5⟩ := f
  exact ⟨.ref D, H', I'.turned (t' := s'.toks) (fun b o hb e => (sb.2 b hb).trans e) f0 f1 f3 f4 f5, rfl, q⟩
/-- name = [..] on one line, the name a local -/
theorem ps_setLcX {i : Nat} {y : Str} {py : Pos} {elt tg iter : Expr} {ifs : List Expr} {scope : Scope} {own : List (Str × Nat)} {pos spos : Pos} {wi : TI} {g : TG} {tt : TT} {te : XK → TE} {W : WX} (tk : Takes X W) (hst : X.stack = X.env :: X.outer) (hfm : X.env.frame = some X.env.locals) (hc : X.calm = true) (hN : X.N.Nodup) (hy : X.N[i]? = some y) (hyl : X.env.scope.names.lookup y = some .local)
    (hsw : swapsWith (.ListComp elt [⟨tg, iter, ifs, 0⟩] scope pos) (some (.Name y py)) spos.line X.env = pure true) (hi : PI X tg iter wi) (ok : BlkOk X.N X.env.scope scope own)
    (hg : ∀ (s : Shared) (H : Hp) (C : Addr) (cl : List (Str × Addr)) (fp : List Addr) (xe : Value → Shared → Prop), PG (X.blkE s H scope (compEnvC scope cl C X.env) fp xe) tg g) (ht : ∀ (s : Shared) (H : Hp) (C : Addr) (cl : List (Str × Addr)) (fp : List Addr) (xe : Value → Shared → Prop), PTs (X.blkE s H scope (compEnvC scope cl C X.env) fp xe) ifs tt)
    (he : ∀ (E : XK) (s : Shared) (H : Hp) (C : Addr) (cl : List (Str × Addr)) (fp : List Addr) (xe : Value → Shared → Prop), Passes (L2.CX X.prog X.w) (X.blkE s H scope (compEnvC scope cl C X.env) fp xe) E → PE (X.blkE s H scope (compEnvC scope cl C X.env) fp xe) elt (te E)) (hs : ∀ x, foldedSetIterable iter X.env x = pure x := by intro _; rfl) :
    PS X (.Assign [.Name y py] (.ListComp elt [⟨tg, iter, ifs, 0⟩] scope pos) spos) (tAsg (tLcX W wi g tt te (own.map (·.2))) (gName i)) := by
  refine ⟨fun pins s σ H D I h => ?_⟩
  rw [exec_Assign_Name_used _ _ _ _ hsw]
  refine wpAny_bind (wpAny_standAt (wpAny_bind ?_))
  show wpAny _ X.A (do let _ ← comprehension (.ListComp elt [⟨tg, iter, ifs, 0⟩] scope pos) scope X.env (firstIterPos [⟨tg, iter, ifs, 0⟩] pos) (newList []) false (eval iter X.env) (some (assign (.Name y py) X.env))) _ _ s
  have h : tLcX W wi g tt te (own.map (·.2)) σ H (fun x H1 => gName i x σ H1 D.nx) := h
  refine wpAny_bind (thn (lcX_core (Qf := fun _ s' => SP X pins D .next s') tk hst hfm hc hN I hi ok hg ht he hs h fun L C s' m H' I' q hn f ce hce => ?_) fun _ s' hq => wpAny_pure (wpAny_pure hq))
  show wpAny _ _ (assign (.Name y py) X.env (.ref L)) _ _ _
  refine wpAny_assign_Name (store_ok2 (v := V.ref L) I' hN hy (.inl hyl) rfl (fun s2 I2 ⟨a, sb, ha⟩ => ?_) (.inr hyl))
  obtain ⟨f0, f1, f2, f3, f4, f5⟩ := f
  have haC : C ≠ a := by
    rcases ha with z | z
    · rw [z]; exact f1
    · exact fun e => f4 y a z e.symm
  rw [hce]
  refine ⟨m, hn.sameBut sb haC, fun h3 sb3 => ?_⟩
  exact ⟨_, H', I2.turned (t' := s2.toks) (fun b o hb e => (sb3.2 b hb).trans e) f0 f1 f3 f4 f5, q⟩
end
/-! ### 135a, told with the error's context -/
section
open PySem.Spec PyProof.Rows
variable {X : Cx} {pins : List (Addr × Obj)} {σ : L2.St} {H : Hp} {s s' : Shared} {B : Heap} {W : WX} {E : XK}
theorem xeN_of_callS {a : Addr} {H' : Hp} {cls : Value} {d : Option Addr} (I : Inv X pins σ H s) (st : B.StaysIn s'.heap) (sky : Sky B X.stack a (L2N.Zn cls d) X.env.locals s'.heap) (hok : HOk X.prog X.w H' B) (ub : UB (frs X.stack) H H' s.heap B s'.heap) (na : H' a = none) (os : s'.os = s.os) (ag : AllBare s'.gens) (w : W cls d σ H') : L2N.XE X W (.ref a) s' := by
  obtain ⟨G, g1, g2⟩ := restrict s'.heap fun b => (B.get? b).isSome || decide (b ∈ frs X.stack)
  have gB : ∀ b o, B.get? b = some o → G.get? b = some o := fun b o e => by
    rw [g1 b (by simp [e])]
    exact st b o e
  have gF : ∀ b, b ∈ frs X.stack → G.get? b = s'.heap.get? b := fun b hb => g1 b (by simp [hb])
  have og : ∀ b o, G.get? b = some o → s'.heap.get? b = some o ∧ ((B.get? b).isSome = true ∨ b ∈ frs X.stack) := fun b o e => by
    cases q : ((B.get? b).isSome || decide (b ∈ frs X.stack)) with
    | false => rw [g2 b q] at e; cases e
    | true =>
      rw [g1 b q] at e
      exact ⟨e, by simpa [Bool.or_eq_true] using q⟩
  refine ⟨a, B, { s with heap := G, gens := s'.gens, drawn := s'.drawn, toks := s'.toks }, pins, σ, H', cls, d, rfl, ?_, fun b o e hb => ?_, Heap.UpToSlots.of_keeps fun b o e => (og b o e).1, sky, na, os, ag, w⟩
  · refine I.call (ch := []) ⟨fun b o e n hb _ => gB b o (ub.keep b o e n hb), fun b o e n hb _ => ?_, fun b o e n _ => ub.free b o e n, fun b o e _ => ?_, ub.tups, ub.frzs, ub.tbls⟩ (hok.kept gB) ag (fun _ z => nomatch z)
    · obtain ⟨sl, q⟩ := ub.slot b o e hb
      exact ⟨sl, by rw [gF b hb]; exact q⟩
    · by_cases hb : b ∈ frs X.stack
      · obtain ⟨sl, q⟩ := ub.slot b o e hb
        exact ⟨_, by rw [gF b hb]; exact q⟩
      · obtain ⟨o', q⟩ := ub.there b o e hb
        exact ⟨o', gB b o' q⟩
  · obtain ⟨e', h⟩ := og b o e
    rcases h with h | h
    · obtain ⟨o', q⟩ := Option.isSome_iff_exists.mp h
      have z := st b o' q
      rw [e'] at z; cases z
      exact q
    · exact absurd h hb
/-- noted by the block's frame, the block's names let go, on its way again -/
theorem noted_compN {C : Addr} {ce : Env} {H' : Hp} {sI : Shared} {u : Value} {E1 : Value → Shared → Prop} (tk : L2N.Takes X W) (hs : X.stack = X.env :: X.outer) (hf : X.env.frame = some X.env.locals) (hce : ∀ v, noteFrame v ce = noteFrame v X.env) (hfr : ce.frame = X.env.frame) (hcl : ce.locals = C)
    (I : Inv X pins σ H' sI) (hn : ∃ m, sI.heap.Ns C m) (f : FpOk X pins H' C) (hW : ∀ cls d H2, E cls d H2 → W cls d σ H2) (c : L2N.CX X.prog X.w X.stack H' sI E u s') :
    wpAny (model X.prog X.w) X.A (noteFrame u ce) (fun _ s'' => ∃ m, s''.heap.Ns ce.locals m ∧ ∀ h', Heap.SameBut ce.locals s''.heap h' → wpAny (model X.prog X.w) X.A (PySem.passOn "comprehension.variables-let-go" u ce : Sem Value) (fun _ _ => False) X.xe { s'' with heap := h' }) E1 s' := by
  obtain ⟨a, B, H2, cls, d, rfl, fl, hok, ub, na, os, ag, hE⟩ := c
  obtain ⟨m, hm⟩ := hn
  have hfra : X.A.frames = some (X.env :: X.outer) := by rw [I.ok.frames, hs]
  obtain ⟨f0, f1, f2, f3, f4, f5⟩ := f
  have nC : C ∉ frs X.stack := fun hm' => by
    rcases List.mem_cons.mp (I.stkSub C hm') with z | z
    · exact f1 z
    · exact f2 z
  obtain ⟨oC, hoC⟩ : ∃ oC, sI.heap.get? C = some oC := by
    obtain ⟨o, es, n, h1, h2⟩ := hm
    exact ⟨o, h1⟩
  have hBC := ub.keep C oC hoC f0 nC
  have kC : ∀ {h : Heap}, B.StaysIn h → h.Ns C m := fun {h} st => by
    obtain ⟨o, es, n, h1, h2⟩ := hm
    obtain rfl : o = oC := Option.some.inj (h1.symm.trans hoC)
    exact ⟨o, es, n, st _ _ hBC, h2⟩
  rw [hce, hcl]
  rw [hs] at fl
  refine PXN.looks_onZ L2N.Zn.steady hfra hf fl fun h1 hh up => ?_
  have hh0 := hh
  obtain ⟨k1, k2, k3, oe, vs, T, oT, ts, he, hz, hd, e1, hnT, hTe, hT, hdT, e3⟩ := hh
  refine ⟨m, kC k1, fun h2 sb => ?_⟩
  have naC : a ≠ C := fun z => by rw [z, hBC] at k2; cases k2
  have nTC : T ≠ C := fun z => by rw [z, hBC] at hnT; cases hnT
  have sb2 : ∀ b, b ≠ C → h2.get? b = h1.get? b := sb.2
  let B0 := PySem.W.hideAll B [C]
  have b0B : ∀ b o, B0.get? b = some o → B.get? b = some o ∧ b ≠ C := fun b o e => ⟨PySem.W.of_hideAll _ e, fun z => by
    rw [z] at e
    rw [PySem.W.hideAll_none [C] List.mem_cons_self] at e
    cases e⟩
  have toB0 : ∀ b o, B.get? b = some o → b ≠ C → B0.get? b = some o := fun b o e n => PySem.W.hideAll_get [C] e (by simpa using n)
  have noneB0 : ∀ b, B.get? b = none → B0.get? b = none := fun b e => by
    cases q : B0.get? b with
    | none => rfl
    | some o => rw [(b0B b o q).1] at e; cases e
  have hh2 : HandSPX.HeldZ B0 (X.env :: X.outer) a (L2N.Zn cls d) X.env.locals h2 := by
    refine ⟨fun b o e => ?_, noneB0 a k2, ?_, oe, vs, T, oT, ts, (sb2 a naC).trans he, hz, hd, e1, noneB0 T hnT, hTe, (sb2 T nTC).trans hT, hdT, e3⟩
    · obtain ⟨z1, z2⟩ := b0B b o e
      exact (sb2 b z2).trans (k1 b o z1)
    · refine funFrames_but sb (funFrames_none k3 fun L hL => noneB0 L (k3.mem hL).1) ?_
      rw [← hs]
      exact nC
  unfold PySem.passOn
  refine wpAny_bind (wpAny_field ((sb2 a naC).trans he) hd e1 ?_)
  rw [if_neg (show ¬ ((Value.ref T == Value.none) = true) from by simp)]
  refine wpAny_bind ?_
  rw [hfr, hf]
  refine HandSPX.setFlight_onZ hh2 fun h3 hh3 up3 => wpAny_throw ?_
  refine tk _ _ ?_
  have I0 : Inv X pins σ H' { sI with heap := PySem.W.hideAll sI.heap [C], toks := sI.toks } := I.turned (it := C) (fun b o n e => PySem.W.hideAll_get [C] e (by simpa using n)) f0 f1 f3 f4 f5
  have toI : ∀ b o, (PySem.W.hideAll sI.heap [C]).get? b = some o → sI.heap.get? b = some o ∧ b ≠ C := fun b o e => ⟨PySem.W.of_hideAll _ e, fun z => by
    rw [z] at e
    rw [PySem.W.hideAll_none [C] List.mem_cons_self] at e
    cases e⟩
  have H2C : H2 C = none := ub.free C oC hoC f0
  refine xeN_of_callS (B := B0) (H' := H2) I0 hh3.1 (by rw [hs]; exact .inr (.inr hh3)) ?_ ⟨fun b o e n hb => ?_, fun b o e hb => ?_, fun b o e n => ub.free b o (toI b o e).1 n, fun b o e hb => ?_, ub.tups, ub.frzs, ub.tbls⟩ na os ag (hW _ _ _ hE)
  · intro b o q
    refine (hok b o q).stay (fun c u hc r => toB0 c u r fun z => ?_) (fun _ r => r) fun _ _ r => r
    rcases hc with hc | hc
    · rw [← hc, z, H2C] at q; cases q
    · rw [z, H2C] at hc; cases hc
  · obtain ⟨z1, z2⟩ := toI b o e
    exact toB0 b o (ub.keep b o z1 n hb) z2
  · obtain ⟨z1, z2⟩ := toI b o e
    obtain ⟨sl, q⟩ := ub.slot b o z1 hb
    obtain ⟨o', ho', nf⟩ := (fl.2.2.1.mem (by rw [← hs]; exact hb)).2
    obtain rfl : o' = { o with slots := sl } := Option.some.inj (ho'.symm.trans q)
    obtain ⟨sl2, q2⟩ := up b _ q nf
    obtain ⟨sl3, q3⟩ := up3 b _ ((sb2 b z2).trans q2) nf
    exact ⟨sl3, q3⟩
  · obtain ⟨z1, z2⟩ := toI b o e
    obtain ⟨o', q⟩ := ub.there b o z1 hb
    exact ⟨o', toB0 b o' q z2⟩
end
/-! ### 135b, told with the error's context -/
section
open PySem.Spec PyProof.Rows
variable {X : Cx}
set_option maxHeartbeats 0 in
theorem lcX_coreN {pins : List (Addr × Obj)} {s : Shared} {σ : L2.St} {H : Hp} {Q : VK} {elt tg iter : Expr} {ifs : List Expr} {scope : Scope} {own : List (Str × Nat)} {pos pos' : Pos} {wi : TI} {g : TG} {tt : TT} {te : XK → TE} {W : WX} {use : Option (Value → Sem Unit)} {Qf : Value → Shared → Prop}
    (tk : L2N.Takes X W) (hst : X.stack = X.env :: X.outer) (hfm : X.env.frame = some X.env.locals)
    (hc : X.calm = true) (hN : X.N.Nodup) (I : Inv X pins σ H s) (hi : PI X tg iter wi) (ok : BlkOk X.N X.env.scope scope own)
    (hg : ∀ (s : Shared) (H : Hp) (C : Addr) (cl : List (Str × Addr)) (fp : List Addr) (xe : Value → Shared → Prop), PG (X.blkE s H scope (compEnvC scope cl C X.env) fp xe) tg g) (ht : ∀ (s : Shared) (H : Hp) (C : Addr) (cl : List (Str × Addr)) (fp : List Addr) (xe : Value → Shared → Prop), PTs (X.blkE s H scope (compEnvC scope cl C X.env) fp xe) ifs tt)
    (he : ∀ (E : XK) (s : Shared) (H : Hp) (C : Addr) (cl : List (Str × Addr)) (fp : List Addr) (xe : Value → Shared → Prop), Passes (L2N.CX X.prog X.w) (X.blkE s H scope (compEnvC scope cl C X.env) fp xe) E → PE (X.blkE s H scope (compEnvC scope cl C X.env) fp xe) elt (te E)) (hs : ∀ x, foldedSetIterable iter X.env x = pure x)
    (h : tLcX W wi g tt te (own.map (·.2)) σ H Q)
    (hRR : ∀ D C s' m H', Inv X pins σ H' s' → Q (.ref D) H' → s'.heap.Ns C m → FpOk X pins H' C → ∀ ce : Env, ce.locals = C → compPostE (model X.prog X.w) X.A X.xe use Qf (.ref D) ce (.ok .next) s') :
    wpAny (model X.prog X.w) X.A (comprehension (.ListComp elt [⟨tg, iter, ifs, 0⟩] scope pos) scope X.env pos' (newList []) false (eval iter X.env) use) Qf X.xe s := by
  have hfree : ∀ y ∈ scope.names, y.2 = .free → ∃ c, X.env.cells.lookup y.1 = some c := fun y hy e => by
    rcases ok.free y hy e with k | k
    · exact I.ok.has _ (.inl k)
    · exact I.ok.has _ (.inr k)
  refine wpAny_comprehension_freeE (use := use) rfl hs (closure_ok hfree) ok.kind (fun y hy e => by rw [ok.uniq y hy, e])
    (thn (hi.run pins s σ H _ I h) fun xv s1 hx => thn hx fun itv s2 h2 => ?_)
  obtain ⟨it, fp, tn, J, H2, e, I2, T, st2, f2, q⟩ := h2
  subst e
  refine wpAny_newObj_type (newEnv_comp ?_) (by show 0 ≤ sizeLine; decide)
  generalize hD : s2.heap.objs.size = D
  have hDn : H2 D = none := I2.hok.fresh (Nat.le_of_eq hD)
  obtain ⟨W2, ⟨m0, w0⟩, turn⟩ := q D hDn
  generalize hs3 : ({ s2 with heap := s2.heap.push { cls := .type "list", data := .seq ([] : List Value).toArray } } : Shared) = s3
  have I3 : Inv X pins σ (L2.upd H2 D (.lst [])) s3 := by
    rw [← hs3]
    refine I2.laid (t' := s2.toks) (fun b o e => Heap.get?_push_of_some _ e) (Nat.le_of_eq hD) ⟨Nat.zero_le _, [], 0, .nil, ?_⟩
    rw [← hD]
    exact Heap.get?_push_size _ rfl
  have h3 : s3.heap = s2.heap.push { cls := .type "list", data := .seq ([] : List Value).toArray } := by rw [← hs3]
  have sz : ∀ b ∈ fp, b < s2.heap.objs.size := fun b hb => by
    obtain ⟨o, e, _⟩ := T.obj _ _ st2 b hb
    exact Heap.lt_size e
  have f3 : ∀ b ∈ fp, FpOk X pins (L2.upd H2 D (.lst [])) b ∧ b < s3.heap.objs.size := fun b hb => by
    have hlt := sz b hb
    refine ⟨⟨?_, (f2 b hb).2⟩, by rw [h3, Heap.size_push]; exact Nat.lt_succ_of_lt hlt⟩
    rw [upd_ne (by rw [← hD]; exact Nat.ne_of_lt hlt)]
    exact (f2 b hb).1
  have st3 : tn 0 s3.heap := T.keep _ _ _ st2 fun b _ o e => by rw [h3]; exact Heap.get?_push_of_some _ e
  have nfp : ∀ b ∈ fp, (L2.upd H2 D (.lst [])) b = none := fun b hb => (f3 b hb).1.1
  have I4 := block_start I3 ok hN f3
  show codeAny _ _ (.compStart (.ListComp elt [⟨tg, iter, ifs, 0⟩] scope pos) 0 (.ref it) (.ref D) (compEnvC scope (cellsFrom (s3.heap.objs.size + 1) scope.names (cloFrom X.env.cells scope.names [])) s3.heap.objs.size X.env)) (compPostE (model X.prog X.w) X.A X.xe use Qf (.ref D) (compEnvC scope (cellsFrom (s3.heap.objs.size + 1) scope.names (cloFrom X.env.cells scope.names [])) s3.heap.objs.size X.env)) { s3 with heap := pushCells (s3.heap.push { cls := .type "dict", data := .dict #[] }) scope.names }
  have pg0 := fun xe => hg s3 (L2.upd H2 D (.lst [])) s3.heap.objs.size (cellsFrom (s3.heap.objs.size + 1) scope.names (cloFrom X.env.cells scope.names [])) fp xe
  have pt0 := fun xe => ht s3 (L2.upd H2 D (.lst [])) s3.heap.objs.size (cellsFrom (s3.heap.objs.size + 1) scope.names (cloFrom X.env.cells scope.names [])) fp xe
  have pe0 := fun xe => he (fun cls d H' => W cls d σ H') s3 (L2.upd H2 D (.lst [])) s3.heap.objs.size (cellsFrom (s3.heap.objs.size + 1) scope.names (cloFrom X.env.cells scope.names [])) fp xe
  have ceN : ∀ v, noteFrame v (compEnvC scope (cellsFrom (s3.heap.objs.size + 1) scope.names (cloFrom X.env.cells scope.names [])) s3.heap.objs.size X.env) = noteFrame v X.env := fun v => rfl
  have ceF : (compEnvC scope (cellsFrom (s3.heap.objs.size + 1) scope.names (cloFrom X.env.cells scope.names [])) s3.heap.objs.size X.env).frame = X.env.frame := rfl
  have cL : (compEnvC scope (cellsFrom (s3.heap.objs.size + 1) scope.names (cloFrom X.env.cells scope.names [])) s3.heap.objs.size X.env).locals = s3.heap.objs.size := rfl
  generalize hce : compEnvC scope (cellsFrom (s3.heap.objs.size + 1) scope.names (cloFrom X.env.cells scope.names [])) s3.heap.objs.size X.env = ce at I4 pg0 pt0 pe0 ceN ceF cL ⊢
  generalize hH3 : L2.upd H2 D (.lst []) = H3 at I3 I4 pg0 pt0 pe0 w0 nfp f3
  generalize hs4 : ({ s3 with heap := pushCells (s3.heap.push { cls := .type "dict", data := .dict #[] }) scope.names } : Shared) = s4 at I4 ⊢
  have st4 : tn 0 s4.heap := T.keep _ _ _ st3 fun b _ o e => by rw [← hs4]; exact pushCells_keeps _ _ _ _ (Heap.get?_push_of_some _ e)
  -- what may fly in the block
  let xe : Value → Shared → Prop := fun e s' => ∃ (H' : Hp) (sI : Shared), Inv X pins σ H' sI ∧ (∃ m, sI.heap.Ns s3.heap.objs.size m) ∧ FpOk X pins H' s3.heap.objs.size ∧ L2N.CX X.prog X.w X.stack H' sI (fun cls d H2 => W cls d σ H2) e s'
  let R : Result → Shared → Prop := compPostE (model X.prog X.w) X.A X.xe use Qf (.ref D) ce
  have noted : ∀ e s', xe e s' → notedBy (model X.prog X.w) X.A ce (fun e s' => R (.error e) s') e s' := fun e s' ⟨H', sI, J1, J2, J3, c⟩ => noted_compN (E := fun cls d H2 => W cls d σ H2) tk hst hfm ceN ceF cL J1 J2 J3 (fun _ _ _ z => z) c
  have back : ∀ {pinsB : List (Addr × Obj)} {σ' : L2.St} {H' : Hp} {s' : Shared}, Inv (X.blkE s3 H3 scope ce fp xe) pinsB σ' H' s' → Inv X pins σ H' s' ∧ (∃ m, s'.heap.Ns s3.heap.objs.size m) ∧ FpOk X pins H' s3.heap.objs.size := fun {pinsB σ' H' s'} I6 => by
    have nC : H' s3.heap.objs.size = none := by
      have z : H' ce.locals = none := I6.free
      rw [cL] at z
      exact z
    obtain ⟨m, hn, _⟩ := I6.loc
    have hn : s'.heap.Ns ce.locals m := hn
    rw [cL] at hn
    exact ⟨I3.call' (ch := fp) I6.os I6.base I6.hok I6.bare fun b hb => ⟨(f3 b hb).1.2.2.2.1, (f3 b hb).1.2.1, (f3 b hb).1.2.2.2.2.1, (f3 b hb).1.2.2.2.2.2⟩, ⟨m, hn⟩, I3.fpOk (Nat.le_refl _) nC⟩
  have pg := pg0 xe
  have pt := pt0 xe
  have pe := pe0 xe fun pinsB σ' H' sI e s' IB c => by
    obtain ⟨J1, J2, J3⟩ := back IB
    exact ⟨H', sI, J1, J2, J3, c⟩
  have I4 : Inv (X.blkE s3 H3 scope ce fp xe) [] (wipe σ (own.map (·.2))) H3 s4 := I4.toTry xe
  have stat : ∀ {σ' : L2.St} {H' : Hp} {s' : Shared}, Inv (X.blkE s3 H3 scope ce fp xe) [] σ' H' s' → (∀ b ∈ fp, H' b = none) → ∀ b ∈ fp, FpOk (X.blkE s3 H3 scope ce fp xe) [] H' b := fun {σ' H' s'} I' hn b hb =>
    ⟨hn b hb, (I'.ok.exf b hb).1, I'.ok.exfs b hb, .inl hb, fun x c e => (I'.ok.exf b hb).2 x c e, fun p hp => absurd (show p ∈ ([] : List (Addr × Obj)) ++ [] from hp) (by simp)⟩
  have loop : codeAny (model X.prog X.w) X.A (.compLoop (.ListComp elt [⟨tg, iter, ifs, 0⟩] scope pos) 0 (.ref it) (.ref D) ce) R s4 := by
    refine compLoop_any (fun n s' => ∃ i H', Inv (X.blkE s3 H3 scope ce fp xe) [] (wipe σ (own.map (·.2))) H' s' ∧ tn i s'.heap ∧ (∀ b ∈ fp, H' b = none) ∧ W2 i n H') ?_ m0 ⟨0, H3, I4, st4, nfp, w0⟩
    rintro n s5 ⟨i, H5, I5, st5, n5, w5⟩
    rcases turn i n H5 w5 with ⟨stop, qq⟩ | ⟨go, Nx, hNx, step⟩
    · have td := T.done (X.blkE s3 H3 scope ce fp xe) rfl rfl rfl hc i [] s5 _ H5 (fun _ _ => False) I5 (stat I5 n5) st5 stop
      refine thnF td fun r s6 ⟨hr, I6⟩ => ?_
      subst hr
      obtain ⟨I7, ⟨m, hn⟩, f7⟩ := back I6
      exact hRR D s3.heap.objs.size s6 m H5 I7 qq hn f7 ce cL
    · have ti := T.item (X.blkE s3 H3 scope ce fp xe) rfl rfl rfl hc i [] s5 _ H5 (fun _ _ => False) I5 (stat I5 n5) st5 go
      refine thnF ti fun r s6 ⟨u, hr, h6⟩ => ?_
      subst hr
      refine thnF h6 fun _ s7 ⟨x, H7, I7, r7, y7, st7, n7⟩ => ?_
      have I7' := I7.pinned (stat I7 n7) (T.obj _ _ st7)
      refine wpAny_mono (pg.run _ s7 _ H7 x u _ I7' r7 (step x H7 y7)) (fun _ s8 ⟨σ8, H8, I8, hw8, q8⟩ => ?_) noted
      refine wpAny_mono (pt.run _ s8 σ8 H8 _ I8 q8) (fun b s9 ⟨H9, I9, q9⟩ => ?_) noted
      have fin : ∀ {s' : Shared} {H' : Hp}, Inv (X.blkE s3 H3 scope ce fp xe) ([] ++ pinsAt fp s7.heap) σ8 H' s' → Nx H' → ∃ m, m < n ∧ ∃ i H', Inv (X.blkE s3 H3 scope ce fp xe) [] (wipe σ (own.map (·.2))) H' s' ∧ tn i s'.heap ∧ (∀ b ∈ fp, H' b = none) ∧ W2 i m H' := fun {s' H'} I' nx => by
        obtain ⟨m', hm, w'⟩ := hNx H' nx
        have pin' : ∀ b ∈ fp, ∀ o, s7.heap.get? b = some o → s'.heap.get? b = some o ∧ H' b = none := fun b hb o e =>
          let z := I'.pin (b, o) (List.mem_append_right _ (List.mem_append_right _ (mem_pinsAt hb e)))
          ⟨z.1, z.2.1⟩
        have hl : (wipe σ (own.map (·.2))).length = σ8.length := by rw [← hw8, wipe_length]
        refine ⟨m', hm, i + 1, H', (I'.unpinned (pins := [])).weak hl (fun j v e => ?_), T.keep _ _ _ st7 fun b hb o e => (pin' b hb o e).1, fun b hb => ?_, w'⟩
        · rw [← hw8] at e
          exact (wipe_some e).1
        · obtain ⟨o, e, _⟩ := T.obj _ _ st7 b hb
          exact (pin' b hb o e).2
      cases b with
      | false =>
        simp only [Bool.false_eq_true, if_false] at q9 ⊢
        exact fin I9 q9
      | true =>
        simp only [if_true] at q9 ⊢
        refine wpAny_mono (pe.run _ s9 σ8 H9 _ I9 q9) (fun z s10 ⟨yv, H10, I10, r10, acc, hD10, hz10, nx⟩ => ?_) noted
        exact app_ok (X := X.blkE s3 H3 scope ce fp xe) I10 hD10 hz10 r10 fun s11 I11 => fin I11 nx
  exact codeAny_compStart_list loop (T.self X.A 0 _ _ _ st4 loop)
/-- as a value -/
theorem pe_lcXN {elt tg iter : Expr} {ifs : List Expr} {scope : Scope} {own : List (Str × Nat)} {pos : Pos} {wi : TI} {g : TG} {tt : TT} {te : XK → TE} {W : WX} (tk : L2N.Takes X W) (hst : X.stack = X.env :: X.outer) (hfm : X.env.frame = some X.env.locals) (hc : X.calm = true) (hN : X.N.Nodup) (hi : PI X tg iter wi) (ok : BlkOk X.N X.env.scope scope own)
    (hg : ∀ (s : Shared) (H : Hp) (C : Addr) (cl : List (Str × Addr)) (fp : List Addr) (xe : Value → Shared → Prop), PG (X.blkE s H scope (compEnvC scope cl C X.env) fp xe) tg g) (ht : ∀ (s : Shared) (H : Hp) (C : Addr) (cl : List (Str × Addr)) (fp : List Addr) (xe : Value → Shared → Prop), PTs (X.blkE s H scope (compEnvC scope cl C X.env) fp xe) ifs tt)
    (he : ∀ (E : XK) (s : Shared) (H : Hp) (C : Addr) (cl : List (Str × Addr)) (fp : List Addr) (xe : Value → Shared → Prop), Passes (L2N.CX X.prog X.w) (X.blkE s H scope (compEnvC scope cl C X.env) fp xe) E → PE (X.blkE s H scope (compEnvC scope cl C X.env) fp xe) elt (te E)) (hs : ∀ x, foldedSetIterable iter X.env x = pure x := by intro _; rfl) :
    PE X (.ListComp elt [⟨tg, iter, ifs, 0⟩] scope pos) (tLcX W wi g tt te (own.map (·.2))) := by
  refine ⟨fun pins s σ H Q I h => ?_⟩
  rw [eval_ListComp]
  refine lcX_coreN tk hst hfm hc hN I hi ok hg ht he hs h fun D C s' m H' I' q hn f ce hce => ⟨m, by rw [hce]; exact hn, fun h'' sb => ?_⟩
  rw [hce] at sb
  obtain ⟨f0, f1, f2, f3, f4, f5⟩ := f
  exact ⟨.ref D, H', I'.turned (t' := s'.toks) (fun b o hb e => (sb.2 b hb).trans e) f0 f1 f3 f4 f5, rfl, q⟩
/-- name = [..] on one line, the name a local -/
theorem ps_setLcXN {i : Nat} {y : Str} {py : Pos} {elt tg iter : Expr} {ifs : List Expr} {scope : Scope} {own : List (Str × Nat)} {pos spos : Pos} {wi : TI} {g : TG} {tt : TT} {te : XK → TE} {W : WX} (tk : L2N.Takes X W) (hst : X.stack = X.env :: X.outer) (hfm : X.env.frame = some X.env.locals) (hc : X.calm = true) (hN : X.N.Nodup) (hy : X.N[i]? = some y) (hyl : X.env.scope.names.lookup y = some .local)
    (hsw : swapsWith (.ListComp elt [⟨tg, iter, ifs, 0⟩] scope pos) (some (.Name y py)) spos.line X.env = pure true) (hi : PI X tg iter wi) (ok : BlkOk X.N X.env.scope scope own)
    (hg : ∀ (s : Shared) (H : Hp) (C : Addr) (cl : List (Str × Addr)) (fp : List Addr) (xe : Value → Shared → Prop), PG (X.blkE s H scope (compEnvC scope cl C X.env) fp xe) tg g) (ht : ∀ (s : Shared) (H : Hp) (C : Addr) (cl : List (Str × Addr)) (fp : List Addr) (xe : Value → Shared → Prop), PTs (X.blkE s H scope (compEnvC scope cl C X.env) fp xe) ifs tt)
    (he : ∀ (E : XK) (s : Shared) (H : Hp) (C : Addr) (cl : List (Str × Addr)) (fp : List Addr) (xe : Value → Shared → Prop), Passes (L2N.CX X.prog X.w) (X.blkE s H scope (compEnvC scope cl C X.env) fp xe) E → PE (X.blkE s H scope (compEnvC scope cl C X.env) fp xe) elt (te E)) (hs : ∀ x, foldedSetIterable iter X.env x = pure x := by intro _; rfl) :
    PS X (.Assign [.Name y py] (.ListComp elt [⟨tg, iter, ifs, 0⟩] scope pos) spos) (tAsg (tLcX W wi g tt te (own.map (·.2))) (gName i)) := by
  refine ⟨fun pins s σ H D I h => ?_⟩
  rw [exec_Assign_Name_used _ _ _ _ hsw]
  refine wpAny_bind (wpAny_standAt (wpAny_bind ?_))
  show wpAny _ X.A (do let _ ← comprehension (.ListComp elt [⟨tg, iter, ifs, 0⟩] scope pos) scope X.env (firstIterPos [⟨tg, iter, ifs, 0⟩] pos) (newList []) false (eval iter X.env) (some (assign (.Name y py) X.env))) _ _ s
  have h : tLcX W wi g tt te (own.map (·.2)) σ H (fun x H1 => gName i x σ H1 D.nx) := h
  refine wpAny_bind (thn (lcX_coreN (Qf := fun _ s' => SP X pins D .next s') tk hst hfm hc hN I hi ok hg ht he hs h fun L C s' m H' I' q hn f ce hce => ?_) fun _ s' hq => wpAny_pure (wpAny_pure hq))
  show wpAny _ _ (assign (.Name y py) X.env (.ref L)) _ _ _
  refine wpAny_assign_Name (store_ok2 (v := V.ref L) I' hN hy (.inl hyl) rfl (fun s2 I2 ⟨a, sb, ha⟩ => ?_) (.inr hyl))
  obtain ⟨f0, f1, f2, f3, f4, f5⟩ := f
  have haC : C ≠ a := by
    rcases ha with z | z
    · rw [z]; exact f1
    · exact fun e => f4 y a z e.symm
  rw [hce]
  refine ⟨m, hn.sameBut sb haC, fun h3 sb3 => ?_⟩
  exact ⟨_, H', I2.turned (t' := s2.toks) (fun b o hb e => (sb3.2 b hb).trans e) f0 f1 f3 f4 f5, q⟩
end
/-! ### a try whose suite passes the exception on -/
section
open PySem.Spec PyProof.Rows
variable {X : Cx} {pins : List (Addr × Obj)} {σ : L2.St} {H : Hp} {s : Shared}
/-- the state without some records that nothing of ours is at -/
theorem inv_hide {L : List Addr} (I : Inv X pins σ H s) (h0 : ∀ b ∈ L, X.s_0.heap.get? b = none) (hL : X.env.locals ∉ L) (hcell : ∀ x c, X.env.cells.lookup x = some c → c ∉ L) (hp : ∀ p ∈ X.pn ++ pins, p.1 ∉ L) (hn : ∀ b ∈ L, H b = none) :
    Inv X pins σ H { s with heap := PySem.W.hideAll s.heap L } := by
  have neL : ∀ b o, X.s_0.heap.get? b = some o → b ∉ L := fun b o e z => by rw [h0 b z] at e; cases e
  have kp : ∀ b o, s.heap.get? b = some o → b ∉ L → (PySem.W.hideAll s.heap L).get? b = some o := fun b o e n => PySem.W.hideAll_get L e n
  have cellK : ∀ x c, X.env.cells.lookup x = some c → ∀ v, s.heap.IsCell c v → (PySem.W.hideAll s.heap L).IsCell c v := fun x c e v ⟨o, ho, hd⟩ => ⟨o, kp c o ho (hcell x c e), hd⟩
  refine ⟨I.ok, I.os, I.bare, ⟨fun b o e n hb hx => kp b o (I.base.keep b o e n hb hx) (neL b o e), fun b o e n hb hx => ?_, I.base.free, fun b o e hx => ?_, I.base.tups, I.base.frzs, I.base.tbls⟩, ?_, fun x c e => ?_, I.free, I.freeC, fun p h => ?_, ?_, I.len⟩
  · obtain ⟨sl, e1⟩ := I.base.slot b o e n hb hx
    exact ⟨sl, kp b _ e1 (neL b o e)⟩
  · obtain ⟨o', e1⟩ := I.base.there b o e hx
    exact ⟨o', kp b _ e1 (neL b o e)⟩
  · obtain ⟨m, ⟨o, es, ep, ho, r⟩, hl⟩ := I.loc
    refine ⟨m, ⟨o, es, ep, kp _ o ho hL, r⟩, fun i x v e1 e2 e3 => ?_⟩
    obtain ⟨u, r', l⟩ := hl i x v e1 e2 e3
    refine ⟨u, r', ?_⟩
    rcases l with l | ⟨k, c, e, z⟩
    · exact .inl l
    · exact .inr ⟨k, c, e, cellK x c e _ z⟩
  · obtain ⟨v, z⟩ := I.cell x c e
    exact ⟨v, cellK x c e v z⟩
  · obtain ⟨e, r⟩ := I.pin p h
    exact ⟨kp _ _ e (hp p h), r⟩
  · intro b u e
    refine (I.hok b u e).stay (fun c v hc q => kp c v q fun z => ?_) (fun _ q => q) fun _ _ q => q
    rcases hc with hc | hc
    · rw [hc] at z
      rw [hn b z] at e
      cases e
    · rw [hn c z] at hc
      cases hc
/-- caught, the suite's row done, raised again -/
def wBack (K : PySem.W.Frag) (c : Value) (ts : Addr → Value → Option Addr → TS) (Wout : WX) : WX := fun cls d σ H =>
  ∃ b, PySem.W.exmOne K cls c = some b ∧ (b = true → ∀ a, H a = none → ts a cls d { nx := fun σ' H' => Wout cls d σ' H', rt := fun _ _ => False } σ H) ∧ (b = false → Wout cls d σ H)
variable {x : Str} {c : Value} {body : List Stmt} {b₀ : Stmt} {np pos pos' rp : Pos} {tb : WX → TS} {ts : Addr → Value → Option Addr → TS} {Wout : WX}
set_option maxHeartbeats 0 in
theorem ps_try_back (hs : X.stack = X.env :: X.outer) (hf : X.env.frame = some X.env.locals) (hex : X.ex = []) (hc : Names X x c) (tk : Takes X Wout) (hpa : ∀ hd : Option Value, PassesOwnAt (model X.prog X.w) (X.A.mark hd) X.A X.env X.xe)
    (hb : ∀ (W : WX) (pn : List (Addr × Obj)) (xe : Value → Shared → Prop), Takes (X.tr pn xe) W → PassesOwn (model X.prog X.w) X.A X.env xe → PSs (X.tr pn xe) body (tb W))
    (hsu : ∀ (a : Addr) (oe : Obj) (cls : Value) (d : Option Addr) (pn : List (Addr × Obj)), Zc cls d oe → (∃ vs, oe.data = .fields vs) → PS (X.suite a ((a, oe) :: pn)) b₀ (ts a cls d)) :
    PS X (.Try body [.ExceptHandler (some (.Name x np)) none [b₀, .Raise none none rp] pos'] [] [] pos) (fun D σ H => tb (wBack X.K c ts Wout) D σ H) := by
  refine ⟨fun pins s σ H D I h => ?_⟩
  have ok := I.ok
  have hfr : X.A.frames = some (X.env :: X.outer) := by rw [ok.frames, hs]
  refine wpAny_Try_except ?_
  refine wpAny_mono ((hb (wBack X.K c ts Wout) (X.pn ++ pins) (fun e s₁ => wpAny (model X.prog X.w) X.A (noteFrame e X.env) (fun _ s₂ => wpAny (model X.prog X.w) X.A (setFlight e none) (fun _ s₃ =>
    wpAny (model X.prog X.w) X.A (handleBy e X.env [.ExceptHandler (some (.Name x np)) none [b₀, .Raise none none rp] pos']) (SP X pins D) X.xe s₃) X.xe s₂) X.xe s₁) (fun u s' xx => ?_) PassesOwn.looking).run [] s σ H D (I.toTry _) h) (fun f s1 hsp => ?_) (fun e s1 he => he)
  · obtain ⟨a, B, sI, pins', σ', H', cls, d, rfl, J', nb, up, sky, na, os, ag, b, hb1, hyes, hno⟩ := xx
    have J : Inv X pins σ' H' sI := J'.ofTry ok
    have sky' : Sky B (X.env :: X.outer) a (Zc cls d) X.env.locals s'.heap := by rw [← hs]; exact sky
    show wpAny (model X.prog X.w) X.A (noteFrame (.ref a) X.env) _ _ _
    refine Sky.land Zc.steady hfr hf sky' fun h3 fl3 up3 => ?_
    have J3 : Inv X pins σ' H' { s' with heap := h3 } := J.landed nb fl3.1 (up.trans up3) os ag
    obtain ⟨oe3, vs3, he3, hz3, hd3⟩ := fl3.there
    have notFr : ∀ {h : Heap} {a : Addr} {o : Obj} {vs : Array Value}, h.FunFrames B (X.env :: X.outer) → h.get? a = some o → o.data = .fields vs → a ∉ frs (X.env :: X.outer) := fun {h a o vs} ff e dd hm => by
      obtain ⟨_, o', e', hnf⟩ := ff.mem hm
      rw [e] at e'; cases e'
      exact hnf _ dd
    have locF : ∀ {a : Addr}, a ∉ frs (X.env :: X.outer) → a ≠ X.env.locals ∧ a ∉ X.fs := fun {a} nfr => ⟨fun z => nfr (List.mem_filterMap.mpr ⟨X.env, List.mem_cons_self, by rw [hf, z]⟩), fun hm => by
      obtain ⟨e, he, q⟩ := List.mem_filterMap.mp hm
      exact nfr (List.mem_filterMap.mpr ⟨e, List.mem_cons_of_mem _ he, q⟩)⟩
    have nfr := notFr fl3.2.2.1 he3 hd3
    obtain ⟨nL, nF⟩ := locF nfr
    have S3 := J3.suite he3 hd3 na nL nF
    refine wpAny_handleBy_cons (codeAny_handlers_test ?_) (by intro q; cases q)
    have LT : PySem.W.Looks (model X.prog X.w) h3 (typeOf (.ref a)) cls := fun A Q E s k q => wpAny_typeOf_ref (k _ _ he3) (by rw [hz3.1]; exact q)
    have LM := PySem.W.exm_one (M := model X.prog X.w) (J3.kIn) LT hb1
    have test : ∀ {Q : Value → Shared → Prop} {E : Value → Shared → Prop}, Q c { s' with heap := h3 } → wpAny (model X.prog X.w) (X.A.mark (some (.ref a))) (eval (.Name x np) X.env) Q E { s' with heap := h3 } := fun {Q E} q => by
      obtain ⟨hg, hdbg, hm | ⟨hm, hv, hnn⟩⟩ := hc
      · exact ld_glob (X := X.suite a ((a, oe3) :: (X.pn ++ pins))) S3 hg hm q hdbg
      · exact ld_blt (X := X.suite a ((a, oe3) :: (X.pn ++ pins))) S3 hg hm hv q hnn hdbg
    refine test (LM.here ?_)
    cases b with
    | true =>
      refine codeAny_handlers_suite ?_
      refine HandSPX.lands_againZ fl3 fun h4 fl4 up4 => ?_
      have J4 : Inv X pins σ' H' { s' with heap := h4 } := J.landed nb fl4.1 ((up.trans up3).trans up4) os ag
      obtain ⟨g1, g2, g3, oe4, vs4, T, oT4, ts4, he4, hz4, hd4, e1, hnT, hTe, hT4, hdT, e3⟩ := fl4
      have nT : H' T = none := (J.inGround nb).gone hnT
      obtain ⟨nTL, nTF⟩ := locF (notFr g3 hT4 hdT)
      have J4p : Inv X (pins ++ [(T, oT4)]) σ' H' { s' with heap := h4 } := J4.pins_of fun p hp => (List.mem_append.mp hp).elim (fun z => J4.pin p (List.mem_append_right _ z)) fun z => by
        rw [List.mem_singleton.mp z]
        exact ⟨hT4, nT, nTL, nTF, fun v y => by have y' : oT4.data = .cell v := y; rw [hdT] at y'; cases y'⟩
      have S4 := J4p.suite he4 hd4 na nL nF
      refine wpAny_execs_cons (wpAny_mono ((hsu a oe4 cls d (X.pn ++ (pins ++ [(T, oT4)])) hz4 ⟨_, hd4⟩).run [] _ _ H' { nx := fun σ6 H6 => Wout cls d σ6 H6, rt := fun _ _ => False } S4 (hyes rfl a na)) (fun f s6 hsp => ?_) (fun _ _ z => False.elim z))
      cases f with
      | brk =>
        obtain ⟨_, _, _, q6⟩ := hsp
        exact False.elim q6
      | cont =>
        obtain ⟨_, _, _, q6⟩ := hsp
        exact False.elim q6
      | ret u =>
        obtain ⟨_, _, _, _, _, q6⟩ := hsp
        exact False.elim q6
      | next =>
        obtain ⟨σ6, H6, S6, q6⟩ := hsp
        have pa := S6.pin (a, oe4) (List.mem_append_left _ List.mem_cons_self)
        have pT := S6.pin (T, oT4) (List.mem_append_left _ (List.mem_cons_of_mem _ (List.mem_append_right _ (List.mem_append_right _ List.mem_cons_self))))
        have J6 : Inv X (pins ++ [(T, oT4)]) σ6 H6 s6 := S6.unsuite ok
        have J6 : Inv X pins σ6 H6 s6 := J6.pins_of fun p hp => J6.pin p (List.mem_append_right _ (List.mem_append_left _ hp))
        obtain ⟨he6, na6, _⟩ := pa
        obtain ⟨hT6, nT6, _⟩ := pT
        have he6 : s6.heap.get? a = some oe4 := he6
        have hT6 : s6.heap.get? T = some oT4 := hT6
        let L6 : List Addr := [a, T]
        let B6 := PySem.W.hideAll s6.heap (L6 ++ frs X.stack)
        have bN : ∀ b, b ∈ L6 ++ frs X.stack → B6.get? b = none := fun b hb => PySem.W.hideAll_none _ hb
        have fl6 : HandSPX.FlyingZ B6 X.stack a (Zc cls d) s6.heap := by
          refine ⟨fun b o e => PySem.W.of_hideAll _ e, bN a (by simp [L6]), funFrames_none J6.stack fun b hb => bN b (List.mem_append_right _ hb), oe4, vs4, T, oT4, ts4, he6, hz4, hd4, e1, bN T (by simp [L6]), hTe, hT6, hdT, e3⟩
        have s0 : ∀ b, B.get? b = none → b ∉ frs X.stack → X.s_0.heap.get? b = none := fun b e n => by
          cases q : X.s_0.heap.get? b with
          | none => rfl
          | some o =>
            obtain ⟨o', e'⟩ := J.base.there b o q (by rw [hex]; simp)
            rw [nb b o' e' n] at e
            cases e
        have nfrT := notFr g3 hT4 hdT
        have I6 : Inv X pins σ6 H6 { s6 with heap := PySem.W.hideAll s6.heap L6 } := by
          refine inv_hide J6 (fun b hb => ?_) (fun z => ?_) (fun x' c' e' z => ?_) (fun p hp z => ?_) (fun b hb => ?_)
          · rcases List.mem_cons.mp hb with rfl | hb
            · exact s0 _ g2 (by rw [hs]; exact nfr)
            · obtain rfl := List.mem_singleton.mp hb
              exact s0 _ hnT (by rw [hs]; exact nfrT)
          · rcases List.mem_cons.mp z with z | z
            · exact nL z.symm
            · exact nTL (List.mem_singleton.mp z).symm
          · obtain ⟨v, o, ho, hd⟩ := J6.cell x' c' e'
            rcases List.mem_cons.mp z with z | z
            · rw [z, he6] at ho
              cases ho
              rw [hd4] at hd
              cases hd
            · rw [List.mem_singleton.mp z, hT6] at ho
              cases ho
              rw [hdT] at hd
              cases hd
          · obtain ⟨q1, q2, q3, q4, _⟩ := J.pin p hp
            have np : p.1 ∉ frs X.stack := fun hm => by
              rcases List.mem_cons.mp (J.stkSub p.1 hm) with y | y
              · exact q3 y
              · exact q4 y
            have z2 := nb p.1 p.2 q1 np
            rcases List.mem_cons.mp z with z | z
            · rw [z, g2] at z2; cases z2
            · rw [List.mem_singleton.mp z, hnT] at z2; cases z2
          · rcases List.mem_cons.mp hb with rfl | hb
            · exact na6
            · obtain rfl := List.mem_singleton.mp hb
              exact nT6
        refine wpAny_mono (E := X.xe) ?_ (fun _ _ z => z) (fun e7 s7 z => hpa (some (.ref a)) e7 s7 z)
        refine wpAny_execs_cons ?_
        refine PySem.wpAny_Raise_bare ?_
        unfold raiseBare raiseStmt
        dsimp only
        refine wpAny_bind (wpAny_handled ?_)
        rw [show (X.A.mark (some (.ref a))).handled = some (.ref a) from rfl]
        dsimp only
        refine wpAny_bind (wpAny_rule ?_)
        refine wpAny_bind (wpAny_field he6 hd4 e1 ?_)
        rw [if_neg (show ¬ ((Value.ref T == Value.none) = true) from by simp)]
        have fin : ∀ {α : Type} {Q : α → Shared → Prop}, wpAny (model X.prog X.w) (X.A.mark (some (.ref a))) (setFlight (.ref a) X.env.frame) (fun _ s7 => wpAny (model X.prog X.w) (X.A.mark (some (.ref a))) (throw (.ref a) : Sem α) Q X.xe s7) X.xe s6 := fun {α Q} => by
          rw [hf]
          refine HandSPX.setFlight_upZ fl6 fun h7 hh7 up7 => wpAny_throw (tk _ _ ?_)
          refine ⟨a, B6, { s6 with heap := PySem.W.hideAll s6.heap L6 }, pins, σ6, H6, cls, d, rfl, I6, fun b o e n => ?_, (Heap.UpToSlots.of_keeps fun b o e => PySem.W.of_hideAll _ e).trans up7, .inr (.inr hh7), na6, rfl, S6.bare, q6⟩
          have nb6 : b ∉ L6 := fun z => by
            have e : (PySem.W.hideAll s6.heap L6).get? b = some o := e
            rw [PySem.W.hideAll_none _ z] at e
            cases e
          exact PySem.W.hideAll_get _ (PySem.W.of_hideAll _ e) fun z => (List.mem_append.mp z).elim nb6 n
        first
          | exact wpAny_bind (wpAny_pure (wpAny_bind fin))
          | exact wpAny_bind fin
    | false =>
      show wpAny _ X.A (handleBy (.ref a) X.env []) _ _ _
      refine wpAny_handleBy_nil ?_
      obtain ⟨k1, k2, k3, oe, vs, T, oT, ts', he, hz, hd, h1, hr⟩ := id fl3
      unfold PySem.passOn
      refine wpAny_bind (wpAny_field he hd h1 ?_)
      rw [if_neg (show ¬ ((Value.ref T == Value.none) = true) from by simp)]
      have fin : wpAny (model X.prog X.w) X.A (setFlight (.ref a) X.env.frame) (fun _ s4 => wpAny (model X.prog X.w) X.A (throw (.ref a) : Sem Flow) (SP X pins D) X.xe s4) X.xe { s' with heap := h3 } := by
        rw [hf]
        refine HandSPX.setFlight_upZ fl3 fun h4 hh4 up4 => wpAny_throw (tk _ _ ?_)
        exact ⟨a, B, sI, pins, σ', H', cls, d, rfl, J, nb, (up.trans up3).trans up4, .inr (.inr (by rw [hs]; exact hh4)), na, os, ag, hno rfl⟩
      first
        | exact wpAny_bind (wpAny_pure (wpAny_bind fin))
        | exact wpAny_bind fin
  · cases f with
    | next =>
      obtain ⟨σ', H', J', q⟩ := hsp
      exact wpAny_execs_nil ⟨σ', H', J'.ofTry ok, q⟩
    | brk =>
      obtain ⟨σ', H', J', q⟩ := hsp
      exact ⟨σ', H', J'.ofTry ok, q⟩
    | cont =>
      obtain ⟨σ', H', J', q⟩ := hsp
      exact ⟨σ', H', J'.ofTry ok, q⟩
    | ret u =>
      obtain ⟨v, σ', H', J', r, q⟩ := hsp
      exact ⟨v, σ', H', J'.ofTry ok, r, q⟩
end
/-! ### a, b = a tuple, while an exception is handled -/
section
open PySem.Spec PyProof.Rows HotX
section
variable {prog : Program} {w : World} {A : Around} {E : Value → Shared → Prop} {s : Shared}
theorem next_tuple_endH {it t x1 : Addr} {i : Nat} {items : Array Value} {Q : Option Value → Shared → Prop} (hot : HotAt A x1 s.heap)
    (hit : IsTupIter s.heap it t i) (ht : IsTup s.heap t items) (hx : items[i]? = none)
    (hQ : ∀ h', Heap.ExtBut it s.heap h' → Q none { s with heap := h' }) : wpAny (model prog w) A (pyNext (.ref it)) Q E s := by
  obtain ⟨o, ho, hc, hd⟩ := id hit
  obtain ⟨ol, hol, _, nl, hdl⟩ := ht
  obtain ⟨hh, o1, vs1, h1, d1, c1⟩ := hot
  have nx : x1 ≠ it := fun z => by
    rw [z, ho] at h1
    cases h1
    rw [hd] at d1
    cases d1
    cases c1
  unfold pyNext
  refine wpAny_bind (wpAny_attempt (wpAny_callSpecial?_slot (name := Str.ofString "__next__") hit.typeIs slot_tupleiter_next
    (wpAny_call_entry slot_tupleiter_next hit.typeIs entry_tupleiter_next ?_ (args_tupleiter_next _))))
  show wpAny _ _ (field (.ref it) 0 >>= _) _ _ s
  refine wpAny_bind (wpAny_field ho hd (x := .ref t) rfl ?_)
  show wpAny _ _ (if (Value.ref t == Value.none) = true then _ else _) _ _ s
  rw [if_neg (show ¬ ((Value.ref t == Value.none) = true) from Bool.false_ne_true)]
  show wpAny _ _ (field (.ref it) 1 >>= _) _ _ s
  refine wpAny_bind (wpAny_field ho hd (x := .int i 0) rfl ?_)
  show wpAny _ _ (seqItems? (.ref t) >>= _) _ _ s
  refine wpAny_bind (wpAny_seqItems hol hdl ?_)
  simp only [Int.toNat_natCast, hx]
  refine wpAny_bind (wpAny_rule (wpAny_bind (wpAny_setField ho hd (by simp) ?_)))
  have h1' : (s.heap.update it (Obj.mapFields (·.setIfInBounds 0 Value.none))).get? x1 = some o1 := (Heap.get?_update_other _ _ (Ne.symm nx)).trans h1
  show wpAny _ _ (newExc (.type "StopIteration") [] >>= _) _ _ _
  refine wpAny_bind ?_
  simp only [newExc, newTuple]
  refine wpAny_bind (wpAny_newObj_type ?_ (by size_fits))
  refine wpAny_bind (m := firstArgMember _ _) (wpAny_of_eq (a := Value.none) (by first | rfl | (simp only [firstArgMember]; rfl)) ?_)
  refine wpAny_newObj_type ?_ (by size_fits)
  refine raiseNew_hot ⟨hh, o1, vs1, Heap.get?_push_of_some _ (Heap.get?_push_of_some _ h1'), d1, c1⟩ (Nat.ne_of_lt (Heap.lt_size (Heap.get?_push_of_some _ h1'))) (Heap.get?_push_size _ rfl) rfl (by first | (simp; done) | (simp; omega) | (simp only [Array.size_append]; simp; omega)) ?_
  refine wpAny_bind (wpAny_isInstance (T := "StopIteration") (b := true) ⟨_, Heap.get?_update_self _ (Heap.get?_push_size _ rfl) rfl, rfl⟩ isSubtype_stop ?_)
  refine wpAny_pure (hQ _ fun b o hb e => ?_)
  have e' : (s.heap.update it (Obj.mapFields (·.setIfInBounds 0 Value.none))).get? b = some o := (Heap.get?_update_other _ _ (Ne.symm hb)).trans e
  rw [Heap.get?_update_other _ _ (Nat.ne_of_gt (Heap.lt_size (Heap.get?_push_of_some _ e')))]
  exact Heap.get?_push_of_some _ (Heap.get?_push_of_some _ e')
theorem unpack_tupleH {t x1 : Addr} {items : Array Value} {targets : List (Bool × (Value → Sem Unit))} {Q : Unit → Shared → Prop} (hot : HotAt A x1 s.heap) (ht : IsTup s.heap t items)
    (hn : targets.length = items.size) (hstar : targets.findIdx? (·.1) = none)
    (h : ∀ h', Heap.ExtBut s.heap.objs.size s.heap h' → wpAny (model prog w) A (assignInOrder (targets.map (·.2)) items.toList) Q E { s with heap := h' }) :
    wpAny (model prog w) A (unpack (.ref t) targets) Q E s := by
  have hlt : t ≠ s.heap.objs.size := by obtain ⟨o, ho, _⟩ := ht; exact Nat.ne_of_lt (Heap.lt_size ho)
  unfold unpack
  rw [hn, hstar]
  refine wpAny_bind (wpAny_holding ?_)
  unfold unpackItems
  refine wpAny_bind ?_
  · unfold notIterableAtAll
    refine wpAny_bind (wpAny_specialOf ht.typeIs slot_tuple_iter.lookup ?_)
    refine wpAny_pure ?_
    simp only [Bool.false_eq_true, if_false]
    refine wpAny_bind (wpAny_holding (iter_tuple ht ?_))
    refine wpAny_bind (wpAny_holding (draw_tuple hlt items.size 0 _ _ ⟨_, Heap.get?_push_size _ rfl, rfl, rfl⟩ (ht.push _) (by omega) fun h₁ hit₁ hs₁ => ?_))
    have hall : List.take items.size (List.drop 0 items.toList) = items.toList := by
      rw [List.drop_zero]; exact List.take_of_length_le (by simp)
    rw [hall]
    rw [if_neg (by simp)]
    have ht₁ : IsTup h₁ t items := (ht.push _).extBut hs₁.extBut hlt
    have hot₁ : HotAt A x1 h₁ := by
      obtain ⟨hh, o1, vs1, h1, d1, c1⟩ := hot
      exact ⟨hh, o1, vs1, (hs₁.2 x1 (Nat.ne_of_lt (Heap.lt_size h1))).trans (Heap.get?_push_of_some _ h1), d1, c1⟩
    refine wpAny_bind (wpAny_holding (next_tuple_endH hot₁ hit₁ ht₁ (by simp) fun h₂ he₂ => ?_))
    simp only [Option.isSome_none, Bool.false_eq_true, if_false]
    refine wpAny_pure (h h₂ fun b o hb e => he₂ b o hb (hs₁.extBut b o hb (Heap.get?_push_of_some _ e)))
end
theorem pg_tupH {X : Cx} {es : List Expr} {k : Nat} {t : TGs} {n : Nat} {pos : Pos} (hc : L2H.HotC X) (h : PGs X es t)
    (hn : (assignEach es X.env).length = n := by rfl) (hst : (assignEach es X.env).findIdx? (·.1) = none := by rfl) : PG X (.Tuple es k pos) (gTup X.K n t) := by
  refine ⟨fun pins s σ H v u Q I r hw => ?_⟩
  obtain ⟨a, xs, e1, hq, hl, hw⟩ := hw
  subst e1
  cases r
  obtain ⟨its, rv, ht, hz⟩ := I.tuple hq
  obtain ⟨x1, hot⟩ := hc.at I
  rw [PyProof.Rows.assign_Tuple]
  refine wpAny_bind (wpAny_standAt (unpack_tupleH hot ht (by simp [hn, ← hl, rv.length]) hst fun h' hx => ?_))
  have I1 : Inv X pins σ H { s with heap := h' } := I.kept (t' := s.toks) fun b o e => hx b o (Nat.ne_of_lt (Heap.lt_size e)) e
  exact h.run pins _ σ H xs _ Q I1 (by simpa using rv) hw
end
/-! ### 137a, told with the error's context -/
section
open PySem.Spec PyProof.Rows
variable {X : Cx} {pins : List (Addr × Obj)} {σ : L2.St} {H : Hp} {s : Shared}
variable {x : Str} {c : Value} {body : List Stmt} {b₀ : Stmt} {np pos pos' rp : Pos} {tb : WX → TS} {ts : Addr → Value → Option Addr → TS} {Wout : WX}
set_option maxHeartbeats 0 in
theorem ps_try_backN (hs : X.stack = X.env :: X.outer) (hf : X.env.frame = some X.env.locals) (hex : X.ex = []) (hc : Names X x c) (tk : L2N.Takes X Wout) (hpa : ∀ hd : Option Value, PassesOwnAt (model X.prog X.w) (X.A.mark hd) X.A X.env X.xe)
    (hb : ∀ (W : WX) (pn : List (Addr × Obj)) (xe : Value → Shared → Prop), L2N.Takes (X.tr pn xe) W → PassesOwn (model X.prog X.w) X.A X.env xe → PSs (X.tr pn xe) body (tb W))
    (hsu : ∀ (a : Addr) (oe : Obj) (cls : Value) (d : Option Addr) (pn : List (Addr × Obj)), L2N.Zn cls d oe → (∃ vs, oe.data = .fields vs) → L2H.HotC (X.suite a ((a, oe) :: pn)) → PS (X.suite a ((a, oe) :: pn)) b₀ (ts a cls d)) :
    PS X (.Try body [.ExceptHandler (some (.Name x np)) none [b₀, .Raise none none rp] pos'] [] [] pos) (fun D σ H => tb (wBack X.K c ts Wout) D σ H) := by
  refine ⟨fun pins s σ H D I h => ?_⟩
  have ok := I.ok
  have hfr : X.A.frames = some (X.env :: X.outer) := by rw [ok.frames, hs]
  refine wpAny_Try_except ?_
  refine wpAny_mono ((hb (wBack X.K c ts Wout) (X.pn ++ pins) (fun e s₁ => wpAny (model X.prog X.w) X.A (noteFrame e X.env) (fun _ s₂ => wpAny (model X.prog X.w) X.A (setFlight e none) (fun _ s₃ =>
    wpAny (model X.prog X.w) X.A (handleBy e X.env [.ExceptHandler (some (.Name x np)) none [b₀, .Raise none none rp] pos']) (SP X pins D) X.xe s₃) X.xe s₂) X.xe s₁) (fun u s' xx => ?_) PassesOwn.looking).run [] s σ H D (I.toTry _) h) (fun f s1 hsp => ?_) (fun e s1 he => he)
  · obtain ⟨a, B, sI, pins', σ', H', cls, d, rfl, J', nb, up, sky, na, os, ag, b, hb1, hyes, hno⟩ := xx
    have J : Inv X pins σ' H' sI := J'.ofTry ok
    have sky' : Sky B (X.env :: X.outer) a (L2N.Zn cls d) X.env.locals s'.heap := by rw [← hs]; exact sky
    show wpAny (model X.prog X.w) X.A (noteFrame (.ref a) X.env) _ _ _
    refine L2N.Sky.land L2N.Zn.steady hfr hf sky' fun h3 fl3 up3 => ?_
    have J3 : Inv X pins σ' H' { s' with heap := h3 } := J.landed nb fl3.1 (up.trans up3) os ag
    obtain ⟨oe3, vs3, he3, hz3, hd3⟩ := fl3.there
    have notFr : ∀ {h : Heap} {a : Addr} {o : Obj} {vs : Array Value}, h.FunFrames B (X.env :: X.outer) → h.get? a = some o → o.data = .fields vs → a ∉ frs (X.env :: X.outer) := fun {h a o vs} ff e dd hm => by
      obtain ⟨_, o', e', hnf⟩ := ff.mem hm
      rw [e] at e'; cases e'
      exact hnf _ dd
    have locF : ∀ {a : Addr}, a ∉ frs (X.env :: X.outer) → a ≠ X.env.locals ∧ a ∉ X.fs := fun {a} nfr => ⟨fun z => nfr (List.mem_filterMap.mpr ⟨X.env, List.mem_cons_self, by rw [hf, z]⟩), fun hm => by
      obtain ⟨e, he, q⟩ := List.mem_filterMap.mp hm
      exact nfr (List.mem_filterMap.mpr ⟨e, List.mem_cons_of_mem _ he, q⟩)⟩
    have nfr := notFr fl3.2.2.1 he3 hd3
    obtain ⟨nL, nF⟩ := locF nfr
    have S3 := J3.suite he3 hd3 na nL nF
    refine wpAny_handleBy_cons (codeAny_handlers_test ?_) (by intro q; cases q)
    have LT : PySem.W.Looks (model X.prog X.w) h3 (typeOf (.ref a)) cls := fun A Q E s k q => wpAny_typeOf_ref (k _ _ he3) (by rw [hz3.1]; exact q)
    have LM := PySem.W.exm_one (M := model X.prog X.w) (J3.kIn) LT hb1
    have test : ∀ {Q : Value → Shared → Prop} {E : Value → Shared → Prop}, Q c { s' with heap := h3 } → wpAny (model X.prog X.w) (X.A.mark (some (.ref a))) (eval (.Name x np) X.env) Q E { s' with heap := h3 } := fun {Q E} q => by
      obtain ⟨hg, hdbg, hm | ⟨hm, hv, hnn⟩⟩ := hc
      · exact ld_glob (X := X.suite a ((a, oe3) :: (X.pn ++ pins))) S3 hg hm q hdbg
      · exact ld_blt (X := X.suite a ((a, oe3) :: (X.pn ++ pins))) S3 hg hm hv q hnn hdbg
    refine test (LM.here ?_)
    cases b with
    | true =>
      refine codeAny_handlers_suite ?_
      refine HandSPX.lands_againZ fl3 fun h4 fl4 up4 => ?_
      have J4 : Inv X pins σ' H' { s' with heap := h4 } := J.landed nb fl4.1 ((up.trans up3).trans up4) os ag
      obtain ⟨g1, g2, g3, oe4, vs4, T, oT4, ts4, he4, hz4, hd4, e1, hnT, hTe, hT4, hdT, e3⟩ := fl4
      have nT : H' T = none := (J.inGround nb).gone hnT
      obtain ⟨nTL, nTF⟩ := locF (notFr g3 hT4 hdT)
      have J4p : Inv X (pins ++ [(T, oT4)]) σ' H' { s' with heap := h4 } := J4.pins_of fun p hp => (List.mem_append.mp hp).elim (fun z => J4.pin p (List.mem_append_right _ z)) fun z => by
        rw [List.mem_singleton.mp z]
        exact ⟨hT4, nT, nTL, nTF, fun v y => by have y' : oT4.data = .cell v := y; rw [hdT] at y'; cases y'⟩
      have S4 := J4p.suite he4 hd4 na nL nF
      refine wpAny_execs_cons (wpAny_mono ((hsu a oe4 cls d (X.pn ++ (pins ++ [(T, oT4)])) hz4 ⟨_, hd4⟩ ⟨(a, oe4), ⟨rfl, vs4, hd4, hz4.2.2 vs4 hd4⟩, List.mem_cons_self⟩).run [] _ _ H' { nx := fun σ6 H6 => Wout cls d σ6 H6, rt := fun _ _ => False } S4 (hyes rfl a na)) (fun f s6 hsp => ?_) (fun _ _ z => False.elim z))
      cases f with
      | brk =>
        obtain ⟨_, _, _, q6⟩ := hsp
        exact False.elim q6
      | cont =>
        obtain ⟨_, _, _, q6⟩ := hsp
        exact False.elim q6
      | ret u =>
        obtain ⟨_, _, _, _, _, q6⟩ := hsp
        exact False.elim q6
      | next =>
        obtain ⟨σ6, H6, S6, q6⟩ := hsp
        have pa := S6.pin (a, oe4) (List.mem_append_left _ List.mem_cons_self)
        have pT := S6.pin (T, oT4) (List.mem_append_left _ (List.mem_cons_of_mem _ (List.mem_append_right _ (List.mem_append_right _ List.mem_cons_self))))
        have J6 : Inv X (pins ++ [(T, oT4)]) σ6 H6 s6 := S6.unsuite ok
        have J6 : Inv X pins σ6 H6 s6 := J6.pins_of fun p hp => J6.pin p (List.mem_append_right _ (List.mem_append_left _ hp))
        obtain ⟨he6, na6, _⟩ := pa
        obtain ⟨hT6, nT6, _⟩ := pT
        have he6 : s6.heap.get? a = some oe4 := he6
        have hT6 : s6.heap.get? T = some oT4 := hT6
        let L6 : List Addr := [a, T]
        let B6 := PySem.W.hideAll s6.heap (L6 ++ frs X.stack)
        have bN : ∀ b, b ∈ L6 ++ frs X.stack → B6.get? b = none := fun b hb => PySem.W.hideAll_none _ hb
        have fl6 : HandSPX.FlyingZ B6 X.stack a (L2N.Zn cls d) s6.heap := by
          refine ⟨fun b o e => PySem.W.of_hideAll _ e, bN a (by simp [L6]), funFrames_none J6.stack fun b hb => bN b (List.mem_append_right _ hb), oe4, vs4, T, oT4, ts4, he6, hz4, hd4, e1, bN T (by simp [L6]), hTe, hT6, hdT, e3⟩
        have s0 : ∀ b, B.get? b = none → b ∉ frs X.stack → X.s_0.heap.get? b = none := fun b e n => by
          cases q : X.s_0.heap.get? b with
          | none => rfl
          | some o =>
            obtain ⟨o', e'⟩ := J.base.there b o q (by rw [hex]; simp)
            rw [nb b o' e' n] at e
            cases e
        have nfrT := notFr g3 hT4 hdT
        have I6 : Inv X pins σ6 H6 { s6 with heap := PySem.W.hideAll s6.heap L6 } := by
          refine inv_hide J6 (fun b hb => ?_) (fun z => ?_) (fun x' c' e' z => ?_) (fun p hp z => ?_) (fun b hb => ?_)
          · rcases List.mem_cons.mp hb with rfl | hb
            · exact s0 _ g2 (by rw [hs]; exact nfr)
            · obtain rfl := List.mem_singleton.mp hb
              exact s0 _ hnT (by rw [hs]; exact nfrT)
          · rcases List.mem_cons.mp z with z | z
            · exact nL z.symm
            · exact nTL (List.mem_singleton.mp z).symm
          · obtain ⟨v, o, ho, hd⟩ := J6.cell x' c' e'
            rcases List.mem_cons.mp z with z | z
            · rw [z, he6] at ho
              cases ho
              rw [hd4] at hd
              cases hd
            · rw [List.mem_singleton.mp z, hT6] at ho
              cases ho
              rw [hdT] at hd
              cases hd
          · obtain ⟨q1, q2, q3, q4, _⟩ := J.pin p hp
            have np : p.1 ∉ frs X.stack := fun hm => by
              rcases List.mem_cons.mp (J.stkSub p.1 hm) with y | y
              · exact q3 y
              · exact q4 y
            have z2 := nb p.1 p.2 q1 np
            rcases List.mem_cons.mp z with z | z
            · rw [z, g2] at z2; cases z2
            · rw [List.mem_singleton.mp z, hnT] at z2; cases z2
          · rcases List.mem_cons.mp hb with rfl | hb
            · exact na6
            · obtain rfl := List.mem_singleton.mp hb
              exact nT6
        refine wpAny_mono (E := X.xe) ?_ (fun _ _ z => z) (fun e7 s7 z => hpa (some (.ref a)) e7 s7 z)
        refine wpAny_execs_cons ?_
        refine PySem.wpAny_Raise_bare ?_
        unfold raiseBare raiseStmt
        dsimp only
        refine wpAny_bind (wpAny_handled ?_)
        rw [show (X.A.mark (some (.ref a))).handled = some (.ref a) from rfl]
        dsimp only
        refine wpAny_bind (wpAny_rule ?_)
        refine wpAny_bind (wpAny_field he6 hd4 e1 ?_)
        rw [if_neg (show ¬ ((Value.ref T == Value.none) = true) from by simp)]
        have fin : ∀ {α : Type} {Q : α → Shared → Prop}, wpAny (model X.prog X.w) (X.A.mark (some (.ref a))) (setFlight (.ref a) X.env.frame) (fun _ s7 => wpAny (model X.prog X.w) (X.A.mark (some (.ref a))) (throw (.ref a) : Sem α) Q X.xe s7) X.xe s6 := fun {α Q} => by
          rw [hf]
          refine HandSPX.setFlight_upZ fl6 fun h7 hh7 up7 => wpAny_throw (tk _ _ ?_)
          refine ⟨a, B6, { s6 with heap := PySem.W.hideAll s6.heap L6 }, pins, σ6, H6, cls, d, rfl, I6, fun b o e n => ?_, (Heap.UpToSlots.of_keeps fun b o e => PySem.W.of_hideAll _ e).trans up7, .inr (.inr hh7), na6, rfl, S6.bare, q6⟩
          have nb6 : b ∉ L6 := fun z => by
            have e : (PySem.W.hideAll s6.heap L6).get? b = some o := e
            rw [PySem.W.hideAll_none _ z] at e
            cases e
          exact PySem.W.hideAll_get _ (PySem.W.of_hideAll _ e) fun z => (List.mem_append.mp z).elim nb6 n
        first
          | exact wpAny_bind (wpAny_pure (wpAny_bind fin))
          | exact wpAny_bind fin
    | false =>
      show wpAny _ X.A (handleBy (.ref a) X.env []) _ _ _
      refine wpAny_handleBy_nil ?_
      obtain ⟨k1, k2, k3, oe, vs, T, oT, ts', he, hz, hd, h1, hr⟩ := id fl3
      unfold PySem.passOn
      refine wpAny_bind (wpAny_field he hd h1 ?_)
      rw [if_neg (show ¬ ((Value.ref T == Value.none) = true) from by simp)]
      have fin : wpAny (model X.prog X.w) X.A (setFlight (.ref a) X.env.frame) (fun _ s4 => wpAny (model X.prog X.w) X.A (throw (.ref a) : Sem Flow) (SP X pins D) X.xe s4) X.xe { s' with heap := h3 } := by
        rw [hf]
        refine HandSPX.setFlight_upZ fl3 fun h4 hh4 up4 => wpAny_throw (tk _ _ ?_)
        exact ⟨a, B, sI, pins, σ', H', cls, d, rfl, J, nb, (up.trans up3).trans up4, .inr (.inr (by rw [hs]; exact hh4)), na, os, ag, hno rfl⟩
      first
        | exact wpAny_bind (wpAny_pure (wpAny_bind fin))
        | exact wpAny_bind fin
  · cases f with
    | next =>
      obtain ⟨σ', H', J', q⟩ := hsp
      exact wpAny_execs_nil ⟨σ', H', J'.ofTry ok, q⟩
    | brk =>
      obtain ⟨σ', H', J', q⟩ := hsp
      exact ⟨σ', H', J'.ofTry ok, q⟩
    | cont =>
      obtain ⟨σ', H', J', q⟩ := hsp
      exact ⟨σ', H', J'.ofTry ok, q⟩
    | ret u =>
      obtain ⟨v, σ', H', J', r, q⟩ := hsp
      exact ⟨v, σ', H', J'.ofTry ok, r, q⟩
end
/-! ### an attribute as one of several targets -/
def gFldA (K : PySem.W.Frag) (to : TE) (f : Str) : TG := fun v σ H Q => to σ H fun x H1 => ∃ a C dx fs, x = .ref a ∧ H1 a = some (.ins C dx fs) ∧ Cls K C ∧ NoAttr K C f ∧ fs.length < 1000 ∧ Q σ (L2.upd H1 a (.ins C dx (putF f v fs)))
theorem pg_fldA {X : Cx} {o : Expr} {f : Str} {pos : Pos} {to : TE} (ho : PE X o to) : PG X (.Attribute o f pos) (gFldA X.K to f) := by
  refine ⟨fun pins s σ H v u Q I r h => ?_⟩
  refine PySem.W.kas_attr (thn (ho.run pins s σ H _ I h) fun ov s2 ⟨x, H2, I2, rx, a, C, dx, fs, ex, ea, c, n, l, q2⟩ => ?_)
  subst ex
  obtain rfl : ov = Value.ref a := rx
  exact setattr_ok I2 ea c n l r fun s3 I3 => ⟨σ, _, I3, q2⟩
/-! ### enumerate over a list, by its steps -/
theorem for_enumL {K : PySem.W.Frag} {a : Addr} {xs : List V} {g : TG} {tb : TS} {D : Ends} {σ : L2.St} {H : Hp} (Pv : Nat → L2.St → Hp → Prop) (h0 : Pv 0 σ H) (hl : ∀ i σ H, Pv i σ H → H a = some (.lst xs))
    (hs : ∀ i x σ H T, xs[i]? = some x → Pv i σ H → H T = none → g (.ref T) σ (upd H T (.tup [.int (i : Nat), x])) fun σ2 H2 => tb { D with nx := Pv (i + 1), ct := Pv (i + 1), bk := D.nx } σ2 H2) (hd : ∀ σ H, Pv xs.length σ H → D.nx σ H) :
    ∃ W : Nat → Nat → L2.St → Hp → Prop, (∃ m, W 0 m σ H) ∧ ∀ i m σ H, W i m σ H →
      ((Ite K a).stop i H ∧ D.nx σ H) ∨ ((Ite K a).go i H ∧ ∃ N : L2.St → Hp → Prop, (∀ σ' H', N σ' H' → ∃ m', m' < m ∧ W (i + 1) m' σ' H') ∧ ∀ x H', (Ite K a).yld i H x H' → g x σ H' fun σ2 H2 => tb { D with nx := N, ct := N, bk := D.nx } σ2 H2) := by
  refine ⟨fun i m σ H => m = xs.length - i ∧ i ≤ xs.length ∧ Pv i σ H, ⟨xs.length, rfl, Nat.zero_le _, h0⟩, ?_⟩
  rintro i m σ H ⟨rfl, hi, p⟩
  have q := hl i σ H p
  by_cases hlt : i < xs.length
  · refine .inr ⟨⟨xs, xs[i], SqL.of q, List.getElem?_eq_getElem hlt⟩, Pv (i + 1), fun σ' H' p' => ⟨xs.length - (i + 1), by omega, rfl, hlt, p'⟩, fun x H' y => ?_⟩
    obtain ⟨T, x', rfl, nT', rfl, f⟩ := y
    obtain rfl : x' = xs[i] := Option.some.inj ((f xs (SqL.of q)).symm.trans (List.getElem?_eq_getElem hlt))
    exact hs i _ σ H T (List.getElem?_eq_getElem hlt) p nT'
  · refine .inl ⟨⟨xs, SqL.of q, by omega⟩, hd σ H ?_⟩
    rw [show xs.length = i by omega]
    exact p
/-! ### the words of operations -/
def opWord : Opn → Str
  | .add _ => "add"
  | .cancel _ => "cancel"
  | .prolong _ _ => "prolong"
  | .rais _ => "raise"
  | .undo => "undo"
  | .redo => "redo"
abbrev s_is_operation : Stmt := top 36
abbrev N_is_operation : List Str := ["entry"]
abbrev P_is_operation : List Str := ["entry"]
theorem sc_is_operation : FnScope N_is_operation P_is_operation (defScope s_is_operation) := ⟨rfl, rfl, rfl, by decide +kernel, rfl, by decide +kernel, by decide +kernel⟩
abbrev s_check_operations : Stmt := top 37
abbrev N_check_operations : List Str := ["operations", "place", "operation"]
abbrev P_check_operations : List Str := ["operations"]
theorem sc_check_operations : FnScope N_check_operations P_check_operations (defScope s_check_operations) := ⟨rfl, rfl, rfl, by decide +kernel, rfl, by decide +kernel, by decide +kernel⟩
/-! ### a dict of the module with text keys and whole numbers -/
structure DctA (K : PySem.W.Frag) (w : World) (mg : Str → Option Value) (x : Str) (kvs : List (Str × Int)) : Prop where
  ex : ∃ d es n, mg x = some (.ref d) ∧ KDict K w d es n ∧ ∀ p ∈ kvs, ∃ t, PySem.W.nsIn K d p.1 = some (some (.int p.2 t))
theorem DctA.mk' {K : PySem.W.Frag} {w : World} {mg : Str → Option Value} {x : Str} {kvs : List (Str × Int)} {d : Addr} {es : Array DictEntry} {n : Nat} (g : mg x = some (.ref d)) (l : K.lookup d = some ⟨.type "dict", none, .dict es n, #[]⟩) (k : PySem.W.KeysLit w.params es.toList) (lo : (d == sysModules) = false)
    (h : ∀ p ∈ kvs, ∃ t, PySem.W.nsIn K d p.1 = some (some (.int p.2 t))) : DctA K w mg x kvs := ⟨d, es, n, g, ⟨l, k, lo⟩, h⟩
abbrev argsL : List (Str × Int) := [("add", 1), ("cancel", 1), ("prolong", 2), ("raise", 1), ("undo", 0), ("redo", 0)]
def opArgs (op : Opn) : Nat := match op with
  | .add _ => 1
  | .cancel _ => 1
  | .prolong _ _ => 2
  | .rais _ => 1
  | .undo => 0
  | .redo => 0
theorem OpnAt.seq {H : Hp} {a : Addr} {op : Opn} (h : OpnAt H a op) : ∃ r, H a = some (.tup (.str (opWord op) :: r)) ∧ r.length = opArgs op ∧ (opWord op, (opArgs op : Int)) ∈ argsL := by
  cases op with
  | add od => obtain ⟨v, hv, _⟩ := h; exact ⟨_, hv, rfl, by show (("add" : Str), (1 : Int)) ∈ argsL; simp [argsL]⟩
  | cancel k => exact ⟨_, h, rfl, by show (("cancel" : Str), (1 : Int)) ∈ argsL; simp [argsL]⟩
  | prolong k n => exact ⟨_, h, rfl, by show (("prolong" : Str), (2 : Int)) ∈ argsL; simp [argsL]⟩
  | rais k => exact ⟨_, h, rfl, by show (("raise" : Str), (1 : Int)) ∈ argsL; simp [argsL]⟩
  | undo => exact ⟨_, h, rfl, by show (("undo" : Str), (0 : Int)) ∈ argsL; simp [argsL]⟩
  | redo => exact ⟨_, h, rfl, by show (("redo" : Str), (0 : Int)) ∈ argsL; simp [argsL]⟩
theorem OpnAt.keep {H H' : Hp} {a : Addr} {op : Opn} (k : TupKeep H H') (h : OpnAt H a op) : OpnAt H' a op := by
  cases op with
  | add od => obtain ⟨v, h1, h2⟩ := h; exact ⟨v, k _ _ h1, h2.keep k⟩
  | cancel i => exact k _ _ h
  | prolong i n => exact k _ _ h
  | rais i => exact k _ _ h
  | undo => exact k _ _ h
  | redo => exact k _ _ h
def spIsOpn : Sp := fun vs H Q _ => ∃ (a : Addr) (op : Opn), vs = [.ref a] ∧ OpnAt H a op ∧ Q (.bl true) H
/-- a list of operations -/
def OpsAt (H : Hp) (l : Addr) (ops : List Opn) : Prop := ∃ xs, H l = some (.lst xs) ∧ Paired (fun v op => ∃ a, v = .ref a ∧ OpnAt H a op) xs ops
def spChkOpns : Sp := fun vs H Q _ => ∃ (l : Addr) (ops : List Opn), vs = [.ref l] ∧ OpsAt H l ops ∧ ops.length ≤ 900 ∧ ∀ H', Same H H' → Q .non H'
section
variable {P : Program} {w : World} {K : PySem.W.Frag} {mg : Str → Option Value} {base : Heap}
theorem ok_is_opn {f : Addr} {fd : FuncData} (F : Fun K "is_operation" "is_operation" s_is_operation f fd) (B : Blt mg) (DA : DctA K w mg "ARGUMENTS" argsL) : FnOk P w K mg base CX0 1 f fd P_is_operation spIsOpn := by
  obtain ⟨d, es, n, hg, D, hk⟩ := DA.ex
  refine F.ok sc_is_operation (fun vs H Q E h => ?_) (fun cdv A outer s H vs Q E hr h => ?_)
  · obtain ⟨a, op, rfl, _⟩ := h
    rfl
  · obtain ⟨a, op, rfl, ha, q⟩ := h
    refine ⟨_, pss_cons (ps_if (PW.pt (pw_or (pt_not (pt_val (pe_callB call_isi (by rfl) B.isi PyProof.Rows.boot_isinstance (pa_cons (pv 0) (pa_cons (pe_bltn (v := .ty "tuple") (by rfl) B.tuple (by decide +kernel) rfl) pa_nil)))))
        (pw_or (pt_cmpR op_eq (pe_callB call_len_seq (by rfl) B.len PySem.boot_len (pa_cons (pv 0) pa_nil)) pe_int (nomark _))
        (pw_or1 (pt_not (pt_val (pe_callB call_isi (by rfl) B.isi PyProof.Rows.boot_isinstance (pa_cons (pe_ix ix_tup (pv 0) pe_int (fun _ _ => rfl)) (pa_cons (pe_bltn (v := .ty "str") (by rfl) B.str (by decide +kernel) rfl) pa_nil))))))))) (pss_one (ps_ret pe_bl)) pss_nil)
      (pss_one (ps_ret (pe_and (pe_cmpR (op_in_kd D) (pe_ix ix_tup (pv 0) pe_int (fun _ _ => rfl)) (pe_glob (v := .ref d) rfl hg rfl) rfl)
        (pe_one (pe_cmpR op_eq (pe_op op_sub (pe_callB call_len_seq (by rfl) B.len PySem.boot_len (pa_cons (pv 0) pa_nil)) pe_int) (pe_ix ix_kdict (pe_glob (v := .ref d) rfl hg rfl) (pe_ix ix_tup (pv 0) pe_int (fun _ _ => rfl)) (fun _ _ => rfl)) (nomark _)))))), ?_⟩
    obtain ⟨r, hr2, hl, hm⟩ := ha.seq
    obtain ⟨tk, hn⟩ := hk _ hm
    refine ⟨_, rfl, _, _, _, _, true, rfl, .ty "tuple", .base (.tup hr2), kit_ty (by decide +kernel), _, rfl, iteF ⟨_, rfl, a, _, rfl, .inr (SqT.of hr2), rfl, false, congrArg V.bl (decide_eq_false (fun z => ?_)), iteF ⟨_, rfl, a, _, 0, _, rfl, rfl, SqT.of hr2, atI_nat (j := 0) rfl, _, _, _, _, true, rfl, .ty "str", .base (.str _), kit_ty (by decide +kernel), _, rfl, iteF ?_⟩⟩⟩
    · have := V.int.inj z
      rw [List.length_cons] at this
      omega
    refine ⟨_, rfl, a, _, 0, _, rfl, rfl, SqT.of hr2, atI_nat (j := 0) rfl, _, _, rfl, rfl, hn, true, rfl, iteT ?_⟩
    refine ⟨_, rfl, a, _, rfl, .inr (SqT.of hr2), _, _, rfl, rfl, _, rfl, a, _, 0, _, rfl, rfl, SqT.of hr2, atI_nat (j := 0) rfl, d, _, .int (opArgs op : Nat), rfl, rfl, ⟨es, n, _, D.at_, D.lit, hn, ⟨_, rfl⟩⟩, ?_⟩
    refine ⟨rfl, ?_⟩
    have e : V.int (((V.str (opWord op) :: r).length : Nat) - 1) = V.int (opArgs op : Nat) := congrArg V.int (by rw [List.length_cons, hl]; omega)
    show Q (.bl (decide (V.int (((V.str (opWord op) :: r).length : Nat) - 1) = V.int (opArgs op : Nat)))) H
    rw [e, decide_eq_true rfl]
    exact q
theorem ok_chk_opns {f : Addr} {fd : FuncData} (F : Fun K "check_operations" "check_operations" s_check_operations f fd) (B : Blt mg) (DI : Df P w K mg base "is_operation" 1 P_is_operation spIsOpn) : FnOk P w K mg base CX0 2 f fd P_check_operations spChkOpns := by
  obtain ⟨fI, dI, gI, kI, bI, GI⟩ := DI
  refine F.ok sc_check_operations (fun vs H Q E h => ?_) (fun cdv A outer s H vs Q E hr h => ?_)
  · obtain ⟨l, ops, rfl, _⟩ := h
    rfl
  · obtain ⟨l, ops, rfl, ⟨xs, hl, hP⟩, len, q⟩ := h
    refine ⟨_, pss_cons (ps_if (pt_not (pt_val (pe_callB call_isi (by rfl) B.isi PyProof.Rows.boot_isinstance (pa_cons (pv 0) (pa_cons (pe_bltn (v := .ty "list") (by rfl) B.list (by decide +kernel) rfl) pa_nil))))) (pss_one ps_never) pss_nil)
      (pss_one (ps_for PassesOwn.never rfl (pi_enum (by rfl) B.enum (pa_cons (pv 0) pa_nil)) (pg_tup (by rfl) (pgs_cons (pg_name (i := 1) sc_check_operations.nd rfl (.inl rfl)) (pgs_cons (pg_name (i := 2) sc_check_operations.nd rfl (.inl rfl)) pgs_nil)))
        (pss_one (ps_if (pt_not (pt_val (pe_call GI hr (by rfl) gI kI bI .nil pass0 (pa_cons (pv 2) pa_nil)))) (pss_one ps_never) pss_nil)))), ?_⟩
    refine ⟨_, rfl, _, _, _, _, true, rfl, .ty "list", .base (.lst hl), kit_ty (by decide +kernel), _, rfl, iteF ?_⟩
    refine ⟨_, rfl, l, xs, rfl, SqL.of hl, for_enumL (K := K) (a := l) (xs := xs) (fun i σ H' => (∃ x1 x2, σ = [some (.ref l), x1, x2]) ∧ Same H H') ⟨⟨_, _, rfl⟩, .refl H⟩ (fun i σ H' ⟨_, s1⟩ => s1 _ _ hl) ?_ ?_⟩
    · rintro i x σ H1 T hi ⟨⟨x1, x2, rfl⟩, s1⟩ nT
      have lt : i < ops.length := by rw [← hP.length]; exact (List.getElem?_eq_some_iff.mp hi).1
      obtain ⟨v', hv', a, rfl, ha⟩ := Paired.get? (i := i) hP (List.getElem?_eq_getElem lt)
      obtain rfl : _ = x := Option.some.inj (hv'.symm.trans hi)
      have s2 := same_upd (o := HO.tup [.int (i : Nat), .ref a]) nT
      refine ⟨T, _, rfl, SqT.of upd_same, rfl, _, _, rfl, _, _, rfl, rfl, _, rfl, a, _, rfl, ha.keep (tk_of (s1.trans s2)), _, rfl, iteF ⟨⟨_, _, rfl⟩, s1.trans s2⟩⟩
    · rintro σ H1 ⟨⟨x1, x2, rfl⟩, s1⟩
      exact q H1 s1
end
abbrev s_Office_batch : Stmt := inClass (top 35) 11
abbrev N_Office_batch : List Str := ["self", "operations", "before", "operation"]
abbrev P_Office_batch : List Str := ["self", "operations"]
theorem sc_Office_batch : FnScope N_Office_batch P_Office_batch (defScope s_Office_batch) := ⟨rfl, rfl, rfl, by decide +kernel, rfl, by decide +kernel, by decide +kernel⟩
/-! ### several operations, one behind the other -/
def nextAll (S : OffS) : List Opn → OffS
  | [] => S
  | op :: r => nextAll (nextO S op) r
def GoAll (S : OffS) : List Opn → Prop
  | [] => True
  | op :: r => OpnOk S op ∧ GoAll (nextO S op) r
inductive Rv where
  | int (n : Nat)
  | non
  | bl (b : Bool)
  | od (o : Od)
def RvAt (H : Hp) (v : V) : Rv → Prop
  | .int n => v = .int n
  | .non => v = .non
  | .bl b => v = .bl b
  | .od o => OrdAt H v o
theorem RvAt.keep {H H' : Hp} {v : V} {r : Rv} (k : TupKeep H H') (h : RvAt H v r) : RvAt H' v r := by
  cases r with
  | od o => exact OrdAt.keep k h
  | int n => exact h
  | non => exact h
  | bl b => exact h
def od0 : Od := ⟨0, 0, 0, 0, 0⟩
def resR (S : OffS) : Opn → Rv
  | .add _ => .int S.cur.length
  | .cancel k => .od ((S.cur[k]?).getD od0)
  | .prolong k _ => .int ((S.cur[k]?).getD od0).n
  | .rais _ => .non
  | .undo => .bl (decide (S.e ≠ 0))
  | .redo => .bl (decide (S.e < S.st.length))
def resAll (S : OffS) : List Opn → List Rv
  | [] => []
  | op :: r => resR S op :: resAll (nextO S op) r
theorem resO_rv {H : Hp} {v : V} {S : OffS} {op : Opn} (h : ResO H v S op) : RvAt H v (resR S op) := by
  cases op with
  | add od => exact h
  | cancel k =>
    obtain ⟨od, e, r⟩ := h
    show OrdAt H v ((S.cur[k]?).getD od0)
    rw [e]
    exact r
  | prolong k n =>
    obtain ⟨od, e, r⟩ := h
    show v = .int ((S.cur[k]?).getD od0).n
    rw [e]
    exact r
  | rais k => exact h
  | undo => exact h
  | redo => exact h
theorem nextAll_snoc : ∀ (ops : List Opn) (S : OffS) (op : Opn), nextAll S (ops ++ [op]) = nextO (nextAll S ops) op
  | [], _, _ => rfl
  | o :: r, S, op => nextAll_snoc r (nextO S o) op
theorem nextAll_app : ∀ (xs ys : List Opn) (S : OffS), nextAll S (xs ++ ys) = nextAll (nextAll S xs) ys
  | [], _, _ => rfl
  | o :: r, ys, S => nextAll_app r ys (nextO S o)
theorem resAll_app : ∀ (xs ys : List Opn) (S : OffS), resAll S (xs ++ ys) = resAll S xs ++ resAll (nextAll S xs) ys
  | [], _, _ => rfl
  | o :: r, ys, S => congrArg (resR S o :: ·) (resAll_app r ys (nextO S o))
theorem resAll_len : ∀ (xs : List Opn) (S : OffS), (resAll S xs).length = xs.length
  | [], _ => rfl
  | o :: r, S => congrArg Nat.succ (resAll_len r (nextO S o))
theorem goAll_at : ∀ (ops : List Opn) (S : OffS), GoAll S ops → ∀ i op, ops[i]? = some op → OpnOk (nextAll S (ops.take i)) op
  | [], _, _, i, _, h => by simp at h
  | o :: r, S, g, 0, op, h => by
    cases h
    exact g.1
  | o :: r, S, g, i + 1, op, h => goAll_at r (nextO S o) g.2 i op h
theorem goAll_app : ∀ (xs ys : List Opn) (S : OffS), GoAll S (xs ++ ys) ↔ GoAll S xs ∧ GoAll (nextAll S xs) ys
  | [], _, _ => ⟨fun h => ⟨trivial, h⟩, fun h => h.2⟩
  | o :: r, ys, S => by
    have ih := goAll_app r ys (nextO S o)
    exact ⟨fun h => ⟨⟨h.1, (ih.mp h.2).1⟩, (ih.mp h.2).2⟩, fun h => ⟨h.1.1, ih.mpr ⟨h.1.2, h.2⟩⟩⟩
theorem nextO_len {S : OffS} {op : Opn} : (nextO S op).st.length ≤ S.st.length + 1 := by
  have st : ∀ (w : Str) (os : List Od), (S.step w os).st.length ≤ S.st.length + 1 := fun w os => by
    show (S.st.take S.e ++ [(w, os)]).length ≤ _
    rw [List.length_append, List.length_take, List.length_singleton]
    omega
  cases op with
  | add od => exact st _ _
  | cancel k => exact st _ _
  | prolong k n => exact st _ _
  | rais k => exact st _ _
  | undo => exact Nat.le_succ _
  | redo => exact Nat.le_succ _
theorem nextAll_len : ∀ (ops : List Opn) (S : OffS), (nextAll S ops).st.length ≤ S.st.length + ops.length
  | [], _ => Nat.le_refl _
  | o :: r, S => by
    have h1 := nextAll_len r (nextO S o)
    have h2 := nextO_len (S := S) (op := o)
    show (nextAll (nextO S o) r).st.length ≤ S.st.length + (r.length + 1)
    omega
theorem OpsAt.keep {H H' : Hp} {l : Addr} {ops : List Opn} (h : OpsAt H l ops) (k : TupKeep H H') (e : ∀ xs, H l = some (.lst xs) → H' l = some (.lst xs)) : OpsAt H' l ops := by
  obtain ⟨xs, h1, h2⟩ := h
  refine ⟨xs, e _ h1, Paired.mapP h2 fun _ _ z => ?_⟩
  obtain ⟨a, e, ha⟩ := z
  exact ⟨a, e, ha.keep k⟩
theorem nextO_fix {S : OffS} {op : Opn} : (nextO S op).sn = S.sn ∧ (nextO S op).F = S.F := by
  cases op <;> exact ⟨rfl, rfl⟩
theorem nextAll_fix {ops : List Opn} {S : OffS} : (nextAll S ops).sn = S.sn ∧ (nextAll S ops).F = S.F := by
  induction ops generalizing S with
  | nil => exact ⟨rfl, rfl⟩
  | cons op r ih =>
    obtain ⟨h1, h2⟩ := ih (S := nextO S op)
    obtain ⟨g1, g2⟩ := nextO_fix (S := S) (op := op)
    exact ⟨h1.trans g1, h2.trans g2⟩
def spBatch (O C : Addr) : Sp := fun vs H Q _ => ∃ (o l : Addr) (ops : List Opn) (S : OffS), vs = [.ref o, .ref l] ∧ OffAt O C H o S ∧ OpsAt H l ops ∧ ops.length ≤ 100 ∧ S.st.length ≤ 700 ∧ GoAll S ops ∧
  ∀ H' r rs, But o H H' → OffAt O C H' o (nextAll S ops) → H r = none → H' r = some (.lst rs) → Paired (RvAt H') rs (resAll S ops) → Q (.ref r) H'
section
variable {P : Program} {w : World} {K : PySem.W.Frag} {mg : Str → Option Value} {base : Heap}
set_option maxHeartbeats 0 in
theorem ok_batch {f O C fX : Addr} {fd fdX : FuncData} (F : Fun K "batch" "Office.batch" s_Office_batch f fd) (T : OffT K O) (DC : Df P w K mg base "check_operations" 2 P_check_operations spChkOpns) (mX : Meth K O "execute" fX) (GX : FnOk P w K mg base CX0 5 fX fdX P_Office_execute (spExec O C)) (bX : Binds K fdX P_Office_execute []) : FnOk P w K mg base CX0 6 f fd P_Office_batch (spBatch O C) := by
  obtain ⟨fC, dC, gC, kC, bC, GC⟩ := DC
  refine F.ok sc_Office_batch (fun vs H Q E h => ?_) (fun cdv A outer s H vs Q E hr h => ?_)
  · obtain ⟨o, l, ops, S, rfl, _⟩ := h
    rfl
  · obtain ⟨o, l, ops, S, rfl, A0, hops, len, l7, go, q⟩ := h
    have hr2 : Room 2 _ := hr.mono (by decide)
    refine ⟨_, pss_cons (ps_expr (pe_call GC hr2 (by rfl) gC kC bC .nil pass0 (pa_cons (pv 1) pa_nil)))
      (pss_cons (ps_set (i := 2) sc_Office_batch.nd rfl (.inl rfl) (pe_tup (pa_cons (pe_fld (pv 0) rfl) (pa_cons (pe_fld (pv 0) rfl) pa_nil))))
      (pss_one (ps_try_thru0 (pss_one (ps_ret (pe_lc (own := [("operation", 3)]) (g := gName 3) (tt := tYes) (te := tMeth O "execute" (spExec O C) [] E0 (tVar 0) (tCons (tVar 3) tNil)) (by rfl) sc_Office_batch.nd (pi_list (pv 1)) (blkOk_by (N := N_Office_batch) (sc := defScope s_Office_batch) (by decide +kernel)) (fun _ _ _ _ _ => (pg_name (i := 3) sc_Office_batch.nd rfl (.inl rfl))) (fun _ _ _ _ _ => pts_nil) (fun _ _ _ _ _ => pe_meth (pv 0) T.cl mX GX hr bX .nil pass0 (pa_cons (pv 3) pa_nil)))))))), ?_⟩
    obtain ⟨dx, fs, u, vs, ho, R, hu, hP, he, N, no⟩ := id A0
    obtain ⟨xs, hl, hX⟩ := id hops
    refine ⟨_, rfl, l, ops, rfl, hops, by omega, fun H1 s1 => ?_⟩
    have ho1 := s1 _ _ ho
    refine ⟨_, rfl, o, O, dx, fs, _, rfl, ho1, T.cl, T.nS, R.st, _, rfl, o, O, dx, fs, _, rfl, ho1, T.cl, T.nE, R.ef, (by show 2 ≤ sizeLine; decide), fun b nb => ?_⟩
    have s2 := s1.trans (same_upd (o := HO.tup [.ref u, .int S.e]) nb)
    generalize (L2.upd H1 b (.tup [.ref u, .int S.e])) = H2 at s2
    refine ⟨_, rfl, l, rfl, ⟨_, SqL.of (s2 _ _ hl)⟩, fun D nD => ?_⟩
    have nDo : o ≠ D := ne_of_none (s2 _ _ ho) nD
    have nDl : l ≠ D := ne_of_none (s2 _ _ hl) nD
    have nlo : l ≠ o := ne_of hl ho (by intro z; cases z)
    have nDH : H D = none := s2.free nD
    refine lc_list (K := K) (a := l) (xs := xs) (fun i H' => But o H H' ∧ OffAt O C H' o (nextAll S (ops.take i)) ∧ ∃ rs, H' D = some (.lst rs) ∧ rs.length = i ∧ Paired (RvAt H') rs (resAll S (ops.take i))) ⟨(But.of s2).trans (.of (same_upd nD)), A0.same (s2.trans (same_upd nD)), [], upd_same, rfl, .nil⟩ (fun i H' _ ⟨b', _⟩ => SqL.of (b' _ _ nlo hl)) ?_ ?_
    · rintro i v H3 hi ⟨b3, A3, rs, hD, hn, hR⟩
      have lt : i < ops.length := by rw [← hX.length]; exact (List.getElem?_eq_some_iff.mp hi).1
      have eg := List.getElem?_eq_getElem lt
      obtain ⟨v', hv', a, rfl, ha⟩ := Paired.get? (i := i) hX eg
      obtain rfl : _ = v := Option.some.inj (hv'.symm.trans hi)
      generalize ops[i] = op at eg ha
      have hn3 := nextAll_len (ops.take i) S
      rw [List.length_take] at hn3
      obtain ⟨dx3, fs3, _, _, ho3, R3, _⟩ := id A3
      have k03 : TupKeep H H3 := tk_ins b3 ho
      refine ⟨rfl, _, rfl, o, dx3, fs3, rfl, ho3, R3.no _ (by decide +kernel) (by decide +kernel) (by decide +kernel) (by decide +kernel), _, rfl, o, a, op, _, rfl, A3, by omega, ha.keep k03, goAll_at ops S go i op eg, fun H4 v b4 A4 r4 => ?_⟩
      have hD4 := b4 _ _ nDo.symm hD
      have k34 : TupKeep H3 H4 := tk_ins b4 ho3
      have k45 : TupKeep H4 (L2.upd H4 D (.lst (rs ++ [v]))) := TupKeep.lst hD4
      refine ⟨_, hD4, by rw [hn]; exact small1000 (by omega), fun z ob nz e => ?_, ?_, rs ++ [v], upd_same, by rw [List.length_append, hn]; rfl, ?_⟩
      · rw [upd_ne (ne_of_none e nDH)]
        exact b4 _ _ nz (b3 _ _ nz e)
      · rw [List.take_add_one, eg, Option.toList_some, nextAll_snoc]
        refine A4.but .upd k45 nDo ?_
        rw [nextO_fix.2, nextAll_fix.2]
        exact N.new nDH
      · rw [List.take_add_one, eg, Option.toList_some, resAll_app]
        exact Paired.app (Paired.mapP hR fun _ _ z => (z.keep k34).keep k45) (.cons ((resO_rv r4).keep k45) .nil)
    · rintro H3 ⟨b3, A3, rs, hD, hn, hR⟩
      rw [hX.length, List.take_length] at A3 hR
      exact q H3 D rs b3 A3 nDH hD hR
end
/-! ### an operation as an office takes it -/
theorem opi_n {H : Hp} {a : Addr} {op : OpI} (h : OpIAt H a op) (h1 : ∀ i, op = .cancel i ∨ op = .rais i → 0 ≤ i) (h2 : ∀ i n, op = .prolong i n → 0 ≤ i) : OpnAt H a op.toN := by
  cases op with
  | add od => exact h
  | cancel i =>
    show H a = some (.tup [.str "cancel", .int ((i.toNat : Nat) : Int)])
    rw [Int.toNat_of_nonneg (h1 i (.inl rfl))]
    exact h
  | prolong i n =>
    show H a = some (.tup [.str "prolong", .int ((i.toNat : Nat) : Int), .int n])
    rw [Int.toNat_of_nonneg (h2 i n rfl)]
    exact h
  | rais i =>
    show H a = some (.tup [.str "raise", .int ((i.toNat : Nat) : Int)])
    rw [Int.toNat_of_nonneg (h1 i (.inr rfl))]
    exact h
  | undo => exact h
  | redo => exact h
/-! ### lists said again and again -/
theorem paired_rep {α β : Type} {F : α → β → Prop} {xs : List α} {l : List β} (h : Paired F xs l) : ∀ n, Paired F (List.replicate n xs).flatten (List.replicate n l).flatten
  | 0 => .nil
  | n + 1 => by
    rw [List.replicate_succ, List.flatten_cons, List.replicate_succ, List.flatten_cons]
    exact Paired.app h (paired_rep h n)
theorem mem_rep {α : Type} {l : List α} {x : α} : ∀ {n : Nat}, x ∈ (List.replicate n l).flatten → x ∈ l
  | 0, h => by cases h
  | n + 1, h => by
    rw [List.replicate_succ, List.flatten_cons] at h
    exact (List.mem_append.mp h).elim id mem_rep
abbrev s_l_start : Stmt := top 43
abbrev N_l_start : List Str := ["_law_d", "_law_period", "_law_houses", "_law_orders"]
abbrev P_l_start : List Str := ["_law_d"]
theorem sc_l_start : FnScope N_l_start P_l_start (defScope s_l_start) := ⟨rfl, rfl, rfl, by decide +kernel, rfl, by decide +kernel, by decide +kernel⟩
/-! ### the parts of a net for an office -/
def spStart : Sp := fun vs H Q _ => ∃ (d : Addr), vs = [.ref d] ∧ DAt H d ∧
  ∀ H' a p h os, NetOk p h os → (p ≤ 5 ∧ 2 ≤ h ∧ h ≤ 4) → But d H H' → DAt H' d → H a = none → PartsAt H' a p h os → Q (.ref a) H'
section
variable {P : Program} {w : World} {K : PySem.W.Frag} {mg : Str → Option Value} {base : Heap}
theorem ok_start {f : Addr} {fd : FuncData} (F : Fun K "_law_start" "_law_start" s_l_start f fd) (DB : Df P w K mg base "_law_below" 2 P_l_below spBelow) (DM : Df P w K mg base "_law_small" 4 P_l_small spSmall) : FnOk P w K mg base CX0 5 f fd P_l_start spStart := by
  obtain ⟨fB, fdB, gB, kB, bB, GB⟩ := DB
  obtain ⟨fM, fdM, gM, kM, bM, GM⟩ := DM
  refine F.ok sc_l_start (fun vs H Q E h => ?_) (fun cdv A outer s H vs Q E hr h => ?_)
  · obtain ⟨d, rfl, _⟩ := h
    rfl
  · obtain ⟨d, rfl, hD, q⟩ := h
    have hr2 : Room 2 _ := hr.mono (by decide)
    refine ⟨_, pss_cons (ps_asg (pe_call GM hr (by rfl) gM kM bM .nil pass0 (pa_cons (pv 0) pa_nil)) (pg_tup (by rfl) (pgs_cons (pg_name (i := 1) sc_l_start.nd rfl (.inl rfl)) (pgs_cons (pg_name (i := 2) sc_l_start.nd rfl (.inl rfl)) (pgs_cons (pg_name (i := 3) sc_l_start.nd rfl (.inl rfl)) pgs_nil)))))
      (pss_one (ps_ret (pe_tup (pa_cons (pv 1) (pa_cons (pv 2) (pa_cons (pe_ifExp (pt_cmpR op_eq (pe_call GB hr2 (by rfl) gB kB bB .nil pass0 (pa_cons (pv 0) (pa_cons pe_int pa_nil))) pe_int (nomark _)) (pe_slice sl_tupA (pe_op op_repT (pv 3) pe_int) po_none (po_some pe_int)) (pv 3)) pa_nil)))))), ?_⟩
    refine ⟨_, rfl, d, rfl, hD, fun H1 a p h os ok sm b1 D1 na ⟨t, ha, hO⟩ => ?_⟩
    refine ⟨a, _, rfl, SqT.of ha, rfl, _, _, rfl, _, _, rfl, _, _, rfl, rfl, ?_⟩
    refine ⟨_, rfl, _, rfl, _, rfl, d, 6, rfl, D1, by decide, by decide, fun H2 r hr2 b2 D2 => ?_⟩
    have k2 := b2.tk D1
    obtain ⟨ts, ht, hP⟩ := hO.keep k2
    have tl := hP.length
    refine ⟨rfl, _, rfl, ?_⟩
    by_cases c : V.int (r : Nat) = V.int 0
    · rw [decide_eq_true c]
      refine iteT ⟨_, rfl, t, 20, ts, rfl, rfl, SqT.of ht, fun z => ?_, by decide, by decide, by omega, fun u nu => ?_⟩
      · rw [z] at tl
        have := sm.2.2.2.1
        simp at tl
        omega
      · have s3 := same_upd (o := HO.tup (List.replicate (Int.toNat 20) ts).flatten) nu
        refine ⟨20, rfl, ?_⟩
        refine slA_case upd_same fun b H4 s4 hb => ?_
        have e20 : cutV (List.replicate (Int.toNat 20) ts).flatten none (some 20) = (List.replicate 20 ts).flatten.take 20 := cut_to (n := 20)
        rw [e20] at hb
        have s24 := s3.trans s4
        have hP4 : Paired (OrdAt H4) ((List.replicate 20 ts).flatten.take 20) ((List.replicate 20 os).flatten.take 20) := Paired.take (paired_rep (OrdsAt.keep (tk_of s24) hP) 20) 20
        refine ⟨(by show 3 ≤ sizeLine; decide), fun v nv => ?_⟩
        have s5 := same_upd (o := HO.tup [.int p, .int h, .ref b]) nv
        refine q _ v p h ((List.replicate 20 os).flatten.take 20) ⟨ok.p1, ok.p30, ok.h1, ok.h10, by rw [List.length_take]; exact Nat.min_le_left _ _, fun o ho => ok.ok o (mem_rep (List.mem_of_mem_take ho))⟩ ⟨sm.1, sm.2.1, sm.2.2.1⟩ ?_ ?_ ?_ ⟨b, upd_same, _, s5 _ _ hb, OrdsAt.keep (tk_of s5) hP4⟩
        · exact b1.trans (b2.trans (.of (s24.trans s5)))
        · exact D2.but (s24.trans s5)
        · exact (b1.trans (b2.trans (.of s24))).free (D2.but s24).som.choose_spec nv
    · rw [decide_eq_false c]
      refine iteF ⟨_, rfl, (by show 3 ≤ sizeLine; decide), fun v nv => ?_⟩
      have s5 := same_upd (o := HO.tup [.int p, .int h, .ref t]) nv
      refine q _ v p h os ok ⟨sm.1, sm.2.1, sm.2.2.1⟩ ?_ ?_ ?_ ⟨t, upd_same, ts, s5 _ _ ht, OrdsAt.keep (tk_of s5) hP⟩
      · exact b1.trans (b2.trans (.of s5))
      · exact D2.but s5
      · exact (b1.trans b2).free D2.som.choose_spec nv
end
abbrev s_l_operation : Stmt := top 48
abbrev N_l_operation : List Str := ["_law_d", "_law_parts", "_law_kind", "_law_many", "_law_index", "_law_order_here"]
abbrev P_l_operation : List Str := ["_law_d", "_law_parts"]
theorem sc_l_operation : FnScope N_l_operation P_l_operation (defScope s_l_operation) := ⟨rfl, rfl, rfl, by decide +kernel, rfl, by decide +kernel, by decide +kernel⟩
/-! ### an operation drawn -/
def spOperation : Sp := fun vs H Q _ => ∃ (d a t : Addr) (p h : Nat) (os : List Od), vs = [.ref d, .ref a] ∧ DAt H d ∧ H a = some (.tup [.int p, .int h, .ref t]) ∧ OrdsTup H t os ∧ 1 ≤ p ∧ p ≤ 30 ∧ 2 ≤ h ∧ h ≤ 10 ∧ os.length ≤ 20 ∧
  ∀ H' b op, But d H H' → DAt H' d → H b = none → OpIAt H' b op → OpWf p h op → Q (.ref b) H'
section
variable {P : Program} {w : World} {K : PySem.W.Frag} {mg : Str → Option Value} {base : Heap}
set_option maxHeartbeats 0 in
theorem ok_operation {f : Addr} {fd : FuncData} (F : Fun K "_law_operation" "_law_operation" s_l_operation f fd) (B : Blt mg) (DB : Df P w K mg base "_law_below" 2 P_l_below spBelow) (DO : Df P w K mg base "_law_order" 3 P_l_order spOrder) : FnOk P w K mg base CX0 4 f fd P_l_operation spOperation := by
  obtain ⟨fB, fdB, gB, kB, bB, GB⟩ := DB
  obtain ⟨fO, fdO, gO, kO, bO, GO⟩ := DO
  refine F.ok sc_l_operation (fun vs H Q E h => ?_) (fun cdv A outer s H vs Q E hr h => ?_)
  · obtain ⟨d, a, t, p, h, os, rfl, _⟩ := h
    rfl
  · obtain ⟨d, a, t, p, h, os, rfl, hD, ha, hO, p1, p30, h2, h10, l20, q⟩ := h
    have hr2 : Room 2 _ := hr.mono (by decide)
    refine ⟨_, (pss_cons (ps_par (by rfl) sc_l_operation.nd (i := 2) (j := 3) rfl rfl (by decide) rfl rfl (pa_cons (pe_call GB hr2 (by rfl) gB kB bB .nil pass0 (pa_cons (pv 0) (pa_cons pe_int pa_nil))) (pa_cons (pe_callB call_len_seq (by rfl) B.len PySem.boot_len (pa_cons (pe_ix ix_tup (pv 1) pe_int (fun _ _ => rfl)) pa_nil)) pa_nil)) (by rfl))
      (C8.pss_cut (ps_set (i := 4) sc_l_operation.nd rfl (.inl rfl) (pe_ifExp (PW.pt (pw_and (pt_cmpR op_gt (pv 3) pe_int (nomark _)) (pw_and1 (pt_cmpR op_gt (pe_call GB hr2 (by rfl) gB kB bB .nil pass0 (pa_cons (pv 0) (pa_cons pe_int pa_nil))) pe_int (nomark _))))) (pe_call GB hr2 (by rfl) gB kB bB .nil pass0 (pa_cons (pv 0) (pa_cons (pe_op op_add (pv 3) pe_int) pa_nil))) (pe_ix ix_list (pe_lst (pa_cons (pe_op op_sub pe_int pe_int) (pa_cons (pv 3) (pa_cons pe_int pa_nil)))) (pe_call GB hr2 (by rfl) gB kB bB .nil pass0 (pa_cons (pv 0) (pa_cons pe_int pa_nil))) (fun _ _ => rfl))))
      (C8.pss_cut (ps_if (pt_cmpR op_lt (pv 2) pe_int (nomark _)) (pss_cons (ps_set (i := 5) sc_l_operation.nd rfl (.inl rfl) (pe_call GO hr (by rfl) gO kO bO .nil pass0 (pa_cons (pv 0) (pa_cons (pe_ix ix_tup (pv 1) pe_int (fun _ _ => rfl)) (pa_cons (pe_ix ix_tup (pv 1) pe_int (fun _ _ => rfl)) pa_nil)))))
      (pss_one (ps_ret (pe_tup (pa_cons pe_str (pa_cons (pe_ifExp (pt_cmpR op_eq (pe_call GB hr2 (by rfl) gB kB bB .nil pass0 (pa_cons (pv 0) (pa_cons pe_int pa_nil))) pe_int (nomark _)) (pe_op op_catA (pe_slice sl_tupA (pv 5) po_none (po_some pe_int)) (pe_tup (pa_cons (pe_op op_add (pe_ix ix_tup (pv 1) pe_int (fun _ _ => rfl)) pe_int) (pa_cons (pe_ix ix_tup (pv 5) pe_int (fun _ _ => rfl)) pa_nil)))) (pv 5)) pa_nil)))))) pss_nil)
      (pss_cons (ps_if (pt_cmpR op_eq (pv 2) pe_int (nomark _)) (pss_one (ps_ret (pe_tup (pa_cons pe_str (pa_cons (pv 4) pa_nil))))) pss_nil)
      (pss_cons (ps_if (pt_cmpR op_lt (pv 2) pe_int (nomark _)) (pss_one (ps_ret (pe_tup (pa_cons pe_str (pa_cons (pv 4) (pa_cons (pe_call GB hr2 (by rfl) gB kB bB .nil pass0 (pa_cons (pv 0) (pa_cons (pe_op op_add (pe_ix ix_tup (pv 1) pe_int (fun _ _ => rfl)) pe_int) pa_nil))) pa_nil)))))) pss_nil)
      (pss_cons (ps_if (pt_cmpR op_eq (pv 2) pe_int (nomark _)) (pss_one (ps_ret (pe_tup (pa_cons pe_str (pa_cons (pv 4) pa_nil))))) pss_nil)
      (pss_one (ps_ret (pe_tup (pa_cons (pe_ix ix_list (pe_lst (pa_cons pe_str (pa_cons pe_str (pa_cons pe_str (pa_cons pe_str pa_nil))))) (pe_op op_sub (pv 2) pe_int) (fun _ _ => rfl)) pa_nil)))))))))), ?_⟩
    obtain ⟨ts, ht, hP⟩ := id hO
    have tl := hP.length
    refine ⟨_, rfl, d, 10, rfl, hD, by decide, by decide, fun H1 kd hkd b1 D1 => ?_⟩
    have k1 := b1.tk hD
    refine ⟨_, rfl, a, _, 2, _, rfl, rfl, SqT.of (k1 _ _ ha), atI_nat (j := 2) rfl, t, ts, rfl, .inr (SqT.of (k1 _ _ ht)), _, _, rfl, ?_⟩
    have e3 : ts.length = os.length := tl
    rw [e3]
    generalize hm : os.length = m
    refine ⟨fun σ' H' => ∃ i : Int, σ' = [some (.ref d), some (.ref a), some (.int (kd : Nat)), some (.int (m : Nat)), some (.int i), none] ∧ But d H H' ∧ DAt H' d, ?_, ?_⟩
    · have low : ∀ (H2 : Hp) (Q' : VK), But d H H2 → DAt H2 d → (∀ H3 (i : Int), But d H H3 → DAt H3 d → Q' (.int i) H3) → (tOp (rIxL K) (tLst (tCons (tOp rSub (tC (.int 0)) (tC (.int 1))) (tCons (tVar 3) (tCons (tC (.int 0)) tNil)))) (tCall spBelow [] E0 (tCons (tVar 0) (tCons (tC (.int 3)) tNil)))) [some (.ref d), some (.ref a), some (.int (kd : Nat)), some (.int (m : Nat)), none, none] H2 Q' := fun H2 Q' b2 D2 q' => by
        refine ⟨_, _, rfl, rfl, _, rfl, (by show 3 ≤ sizeLine; decide), fun u nu => ?_⟩
        have s3 := same_upd (o := HO.lst [.int (0 - 1), .int (m : Nat), .int 0]) nu
        refine ⟨_, rfl, d, 3, rfl, D2.but s3, by decide, by decide, fun H4 r hr b4 D4 => ?_⟩
        have nud : u ≠ d := (ne_of_none D2.som.choose_spec nu).symm
        have hu4 := b4 _ _ nud upd_same
        have bb := b2.trans ((But.of s3).trans b4)
        match r, hr with
        | 0, _ => exact ⟨u, _, 0, _, rfl, rfl, SqL.of hu4, atI_nat (j := 0) rfl, q' H4 _ bb D4⟩
        | 1, _ => exact ⟨u, _, 1, _, rfl, rfl, SqL.of hu4, atI_nat (j := 1) rfl, q' H4 _ bb D4⟩
        | 2, _ => exact ⟨u, _, 2, _, rfl, rfl, SqL.of hu4, atI_nat (j := 2) rfl, q' H4 _ bb D4⟩
      refine ⟨_, rfl, _, _, rfl, rfl, _, rfl, ite2 (fun _ => ?_) (fun _ => ?_)⟩
      · refine ⟨_, rfl, d, 4, rfl, D1, by decide, by decide, fun H2 r hr b2 D2 => ⟨_, _, rfl, rfl, _, rfl, ite2 (fun _ => ?_) (fun _ => ?_)⟩⟩
        · exact ⟨_, rfl, _, rfl, _, _, rfl, rfl, d, m + 1, rfl, D2, by omega, by omega, fun H3 i hi b3 D3 => ⟨_, rfl, b1.trans (b2.trans b3), D3⟩⟩
        · exact low H2 _ (b1.trans b2) D2 fun H3 i b3 D3 => ⟨i, rfl, b3, D3⟩
      · exact low H1 _ b1 D1 fun H3 i b3 D3 => ⟨i, rfl, b3, D3⟩
    · rintro σ H2 ⟨i, rfl, b2, D2⟩
      have ha2 := (b2.tk hD) _ _ ha
      refine ⟨fun σ' H' => σ' = [some (.ref d), some (.ref a), some (.int (kd : Nat)), some (.int (m : Nat)), some (.int i), none] ∧ H' = H2 ∧ ¬ decide ((kd : Int) < 2) = true, ?_, ?_⟩
      · refine ⟨_, rfl, _, _, rfl, rfl, _, rfl, ite2 (fun _ => ?_) (fun z => ⟨rfl, rfl, z⟩)⟩
        refine ⟨_, rfl, _, rfl, a, _, 0, _, rfl, rfl, SqT.of ha2, atI_nat (j := 0) rfl, _, rfl, a, _, 1, _, rfl, rfl, SqT.of ha2, atI_nat (j := 1) rfl, d, p, h, rfl, D2, p1, p30, h2, h10, fun H3 u o hok b3 D3 nu hu => ?_⟩
        refine ⟨_, rfl, d, 6, rfl, D3, by decide, by decide, fun H4 r hr b4 D4 => ?_⟩
        have k4 := b4.tk D3
        have k34 := (b3.tk D2).trans k4
        refine ⟨rfl, _, rfl, ite2 (fun _ => ?_) (fun _ => ?_)⟩
        · refine ⟨_, rfl, 3, rfl, slA_case (k4 _ _ hu) fun c H5 s5 hc => ?_⟩
          rw [show cutV o.vs none (some 3) = [V.int (o.s : Nat), V.int (o.t : Nat), V.int (o.f : Nat)] from cut_to (n := 3)] at hc
          refine ⟨_, rfl, a, _, 0, _, rfl, rfl, SqT.of (s5 _ _ (k34 _ _ ha2)), atI_nat (j := 0) rfl, _, _, rfl, rfl, _, rfl, u, _, 4, _, rfl, rfl, SqT.of (s5 _ _ (k4 _ _ hu)), atI_nat (j := 4) rfl, (by show 2 ≤ sizeLine; decide), fun v nv => ?_⟩
          have s6 := same_upd (o := HO.tup [.int ((p : Int) + 1), .int (o.e : Nat)]) nv
          refine catA_case (s6 _ _ hc) upd_same (by show 5 ≤ sizeLine; decide) fun e H7 s7 he => ?_
          refine ⟨(by show 2 ≤ sizeLine; decide), fun x nx => ?_⟩
          have s8 := same_upd (o := HO.tup [.str "add", .ref e]) nx
          have s58 := s5.trans (s6.trans (s7.trans s8))
          have B8 := b2.trans (b3.trans (b4.trans (.of s58)))
          refine q _ x (.add { o with n := p + 1 }) B8 (D4.but s58) ?_ ⟨.ref e, upd_same, e, rfl, s8 _ _ he⟩ ⟨hok.s, hok.t, hok.st, hok.f, Nat.le_add_left _ _, Nat.le_refl _, hok.e1, hok.e⟩
          exact (b2.trans (b3.trans (b4.trans (.of (s5.trans (s6.trans s7)))))).free (D4.but (s5.trans (s6.trans s7))).som.choose_spec nx
        · refine ⟨_, rfl, (by show 2 ≤ sizeLine; decide), fun x nx => ?_⟩
          have s8 := same_upd (o := HO.tup [.str "add", .ref u]) nx
          exact q _ x (.add o) (b2.trans (b3.trans (b4.trans (.of s8)))) (D4.but s8) ((b2.trans (b3.trans b4)).free D4.som.choose_spec nx) ⟨.ref u, upd_same, u, rfl, s8 _ _ (k4 _ _ hu)⟩ ⟨hok.s, hok.t, hok.st, hok.f, hok.n1, Nat.le_succ_of_le hok.n, hok.e1, hok.e⟩
      · rintro σ H3 ⟨rfl, rfl, z1⟩
        have fr : ∀ x, H3 x = none → H x = none := fun x nx => b2.free D2.som.choose_spec nx
        refine ⟨_, rfl, rfl, _, rfl, ite2 (fun _ => ?_) (fun z2 => ?_)⟩
        · refine ⟨_, rfl, (by show 2 ≤ sizeLine; decide), fun x nx => ?_⟩
          have s8 := same_upd (o := HO.tup [.str "cancel", .int i]) nx
          exact q _ x (.cancel i) (b2.trans (.of s8)) (D2.but s8) (fr _ nx) upd_same trivial
        refine ⟨_, rfl, _, _, rfl, rfl, _, rfl, ite2 (fun _ => ?_) (fun z3 => ?_)⟩
        · refine ⟨_, rfl, _, rfl, _, rfl, a, _, 0, _, rfl, rfl, SqT.of ha2, atI_nat (j := 0) rfl, _, _, rfl, rfl, d, p + 2, rfl, D2, by omega, by omega, fun H4 n hn b4 D4 => ?_⟩
          refine ⟨(by show 3 ≤ sizeLine; decide), fun x nx => ?_⟩
          have s8 := same_upd (o := HO.tup [.str "prolong", .int i, .int (n : Nat)]) nx
          exact q _ x (.prolong i n) (b2.trans (b4.trans (.of s8))) (D4.but s8) ((b2.trans b4).free D4.som.choose_spec nx) upd_same (show n ≤ p + 1 by omega)
        refine ⟨_, rfl, rfl, _, rfl, ite2 (fun _ => ?_) (fun z4 => ?_)⟩
        · refine ⟨_, rfl, (by show 2 ≤ sizeLine; decide), fun x nx => ?_⟩
          have s8 := same_upd (o := HO.tup [.str "raise", .int i]) nx
          exact q _ x (.rais i) (b2.trans (.of s8)) (D2.but s8) (fr _ nx) upd_same trivial
        have y3 : ¬ (kd : Int) < 5 := fun e => z3 (decide_eq_true e)
        have y4 : ¬ V.int (kd : Nat) = V.int 5 := fun e => z4 (decide_eq_true e)
        have kk : kd = 6 ∨ kd = 7 ∨ kd = 8 ∨ kd = 9 := by
          have y1 : ¬ (kd : Int) < 2 := fun e => z1 (decide_eq_true e)
          have y5 : kd ≠ 5 := fun e => y4 (by rw [e]; rfl)
          omega
        clear y3 y4 z1 z2 z3 z4
        refine ⟨(by show 4 ≤ sizeLine; decide), fun u nu => ?_⟩
        have s7 := same_upd (o := HO.lst [.str "undo", .str "undo", .str "redo", .str "redo"]) nu
        have fin : ∀ (wd : Str) (op : OpI), (∀ (H' : Hp) (b : Addr), H' b = some (.tup [.str wd]) → OpIAt H' b op) → OpWf p h op → ∀ x, L2.upd H3 u (.lst [.str "undo", .str "undo", .str "redo", .str "redo"]) x = none → Q (.ref x) (L2.upd (L2.upd H3 u (.lst [.str "undo", .str "undo", .str "redo", .str "redo"])) x (.tup [.str wd])) := fun wd op h1 h2 x nx => by
          have s8 := same_upd (o := HO.tup [.str wd]) nx
          exact q _ x op (b2.trans (.of (s7.trans s8))) (D2.but (s7.trans s8)) ((b2.trans (.of s7)).free (D2.but s7).som.choose_spec nx) (h1 _ _ upd_same) h2
        rcases kk with rfl | rfl | rfl | rfl
        · exact ⟨_, rfl, _, _, rfl, rfl, u, _, 0, _, rfl, rfl, SqL.of upd_same, atI_nat (j := 0) rfl, (by show 1 ≤ sizeLine; decide), fin _ .undo (fun _ _ z => z) trivial⟩
        · exact ⟨_, rfl, _, _, rfl, rfl, u, _, 1, _, rfl, rfl, SqL.of upd_same, atI_nat (j := 1) rfl, (by show 1 ≤ sizeLine; decide), fin _ .undo (fun _ _ z => z) trivial⟩
        · exact ⟨_, rfl, _, _, rfl, rfl, u, _, 2, _, rfl, rfl, SqL.of upd_same, atI_nat (j := 2) rfl, (by show 1 ≤ sizeLine; decide), fin _ .redo (fun _ _ z => z) trivial⟩
        · exact ⟨_, rfl, _, _, rfl, rfl, u, _, 3, _, rfl, rfl, SqL.of upd_same, atI_nat (j := 3) rfl, (by show 1 ≤ sizeLine; decide), fin _ .redo (fun _ _ z => z) trivial⟩
end
/-! ### the law's own books of an office: what is past and what is undone -/
abbrev Ent := Str × List Od
structure WSt where
  cur : List Od
  past : List Ent
  und : List (Ent × List Od)
def lastO (o : List Od) (st : List Stp) : List Od := (st.getLast?.map (·.2)).getD o
def pastL : List Od → List Stp → List Ent
  | _, [] => []
  | o, x :: r => (x.1, o) :: pastL x.2 r
def undL : List Od → List Stp → List (Ent × List Od)
  | _, [] => []
  | o, x :: r => ((x.1, o), x.2) :: undL x.2 r
theorem lastO_cons {o : List Od} {x : Stp} {r : List Stp} : lastO o (x :: r) = lastO x.2 r := by
  unfold lastO
  cases r with
  | nil => rfl
  | cons y r => rw [List.getLast?_cons_cons]; cases h : (y :: r).getLast? with
    | none => simp at h
    | some z => rfl
theorem lastO_snoc {o : List Od} {x : Stp} {a : List Stp} : lastO o (a ++ [x]) = x.2 := by
  unfold lastO
  rw [List.getLast?_concat]
  rfl
theorem pastL_snoc : ∀ {a : List Stp} {o : List Od} {x : Stp}, pastL o (a ++ [x]) = pastL o a ++ [(x.1, lastO o a)]
  | [], _, _ => rfl
  | y :: a, o, x => by
    show (y.1, o) :: pastL y.2 (a ++ [x]) = (y.1, o) :: (pastL y.2 a ++ [(x.1, lastO o (y :: a))])
    rw [pastL_snoc, lastO_cons]
theorem pastL_len : ∀ {a : List Stp} {o : List Od}, (pastL o a).length = a.length
  | [], _ => rfl
  | _ :: a, _ => congrArg (· + 1) (pastL_len (a := a))
theorem undL_len : ∀ {a : List Stp} {o : List Od}, (undL o a).length = a.length
  | [], _ => rfl
  | _ :: a, _ => congrArg (· + 1) (undL_len (a := a))
theorem pastL_words : ∀ {a : List Stp} {o : List Od}, (pastL o a).map (·.1) = a.map (·.1)
  | [], _ => rfl
  | x :: a, _ => congrArg (x.1 :: ·) (pastL_words (a := a))
theorem curO_last {os : List Od} {st : List Stp} {e : Nat} (h : e ≤ st.length) : curO os st e = lastO os (st.take e) := by
  unfold curO lastO
  cases e with
  | zero => rfl
  | succ e =>
    rw [if_neg (Nat.succ_ne_zero e), Nat.succ_sub_one, List.getLast?_take]
    have lt : e < st.length := h
    simp [List.getElem?_eq_getElem lt]
def OffS.books (S : OffS) : WSt := ⟨S.cur, pastL S.os (S.st.take S.e), (undL S.cur (S.st.drop S.e)).reverse⟩
theorem books_step {S : OffS} {w : Str} {os : List Od} (h : S.e ≤ S.st.length) : (S.step w os).books = ⟨os, S.books.past ++ [(w, S.cur)], []⟩ := by
  have l1 : (S.st.take S.e).length = S.e := by rw [List.length_take]; exact Nat.min_eq_left h
  have e1 : (S.st.take S.e ++ [(w, os)]).take (S.e + 1) = S.st.take S.e ++ [(w, os)] := List.take_of_length_le (by rw [List.length_append, l1]; exact Nat.le_refl _)
  have e2 : (S.st.take S.e ++ [(w, os)]).drop (S.e + 1) = [] := List.drop_of_length_le (by rw [List.length_append, l1]; exact Nat.le_refl _)
  have c1 : (S.step w os).cur = os := by
    show curO S.os (S.st.take S.e ++ [(w, os)]) (S.e + 1) = os
    rw [curO_last (by rw [List.length_append, l1]; exact Nat.le_refl _), e1, lastO_snoc]
  show WSt.mk (S.step w os).cur (pastL S.os ((S.st.take S.e ++ [(w, os)]).take (S.e + 1))) ((undL (S.step w os).cur ((S.st.take S.e ++ [(w, os)]).drop (S.e + 1))).reverse) = _
  rw [e1, e2, pastL_snoc, c1]
  show WSt.mk os (pastL S.os (S.st.take S.e) ++ [(w, lastO S.os (S.st.take S.e))]) [] = _
  rw [← curO_last h]
  rfl
theorem books_undo {S : OffS} (h : S.e ≤ S.st.length) (h0 : S.e ≠ 0) : ∃ (en : Ent), S.books.past = pastL S.os (S.st.take (S.e - 1)) ++ [en] ∧ ({ S with e := S.e - 1 } : OffS).books = ⟨en.2, pastL S.os (S.st.take (S.e - 1)), S.books.und ++ [(en, S.cur)]⟩ := by
  obtain ⟨e, he⟩ : ∃ e, S.e = e + 1 := ⟨S.e - 1, by omega⟩
  have lt : e < S.st.length := by omega
  have e1 : S.st.take S.e = S.st.take e ++ [S.st[e]] := by rw [he, List.take_add_one, List.getElem?_eq_getElem lt]; rfl
  have e2 : S.st.drop e = S.st[e] :: S.st.drop S.e := by rw [he]; exact List.drop_eq_getElem_cons lt
  have c : S.cur = (S.st[e]).2 := by
    show curO S.os S.st S.e = _
    rw [curO_last h, e1, lastO_snoc]
  have c1 : ({ S with e := S.e - 1 } : OffS).cur = lastO S.os (S.st.take e) := by
    show curO S.os S.st (S.e - 1) = _
    rw [he, Nat.add_sub_cancel, curO_last (by omega)]
  refine ⟨((S.st[e]).1, lastO S.os (S.st.take e)), ?_, ?_⟩
  · show pastL S.os (S.st.take S.e) = _
    rw [e1, pastL_snoc, he, Nat.add_sub_cancel]
  · show WSt.mk ({ S with e := S.e - 1 } : OffS).cur (pastL S.os (S.st.take (S.e - 1))) (undL ({ S with e := S.e - 1 } : OffS).cur (S.st.drop (S.e - 1))).reverse = WSt.mk (lastO S.os (S.st.take e)) (pastL S.os (S.st.take (S.e - 1))) ((undL S.cur (S.st.drop S.e)).reverse ++ [(((S.st[e]).1, lastO S.os (S.st.take e)), S.cur)])
    rw [c1, show S.e - 1 = e by omega, e2]
    show WSt.mk _ _ ((((S.st[e]).1, lastO S.os (S.st.take e)), (S.st[e]).2) :: undL (S.st[e]).2 (S.st.drop S.e)).reverse = _
    rw [List.reverse_cons, c]
theorem books_redo {S : OffS} (h : S.e < S.st.length) : ∃ (x : Ent × List Od), S.books.und = (undL x.2 (S.st.drop (S.e + 1))).reverse ++ [x] ∧ ({ S with e := S.e + 1 } : OffS).books = ⟨x.2, S.books.past ++ [x.1], (undL x.2 (S.st.drop (S.e + 1))).reverse⟩ := by
  have e1 : S.st.take (S.e + 1) = S.st.take S.e ++ [S.st[S.e]] := by rw [List.take_add_one, List.getElem?_eq_getElem h]; rfl
  have e2 : S.st.drop S.e = S.st[S.e] :: S.st.drop (S.e + 1) := List.drop_eq_getElem_cons h
  have c : S.cur = lastO S.os (S.st.take S.e) := curO_last (Nat.le_of_lt h)
  have c1 : ({ S with e := S.e + 1 } : OffS).cur = (S.st[S.e]).2 := by
    show curO S.os S.st (S.e + 1) = _
    rw [curO_last h, e1, lastO_snoc]
  refine ⟨(((S.st[S.e]).1, S.cur), (S.st[S.e]).2), ?_, ?_⟩
  · show (undL S.cur (S.st.drop S.e)).reverse = _
    rw [e2]
    show (((((S.st[S.e]).1, S.cur), (S.st[S.e]).2)) :: undL (S.st[S.e]).2 (S.st.drop (S.e + 1))).reverse = _
    rw [List.reverse_cons]
  · show WSt.mk ({ S with e := S.e + 1 } : OffS).cur (pastL S.os (S.st.take (S.e + 1))) (undL ({ S with e := S.e + 1 } : OffS).cur (S.st.drop (S.e + 1))).reverse = _
    rw [c1, e1, pastL_snoc, ← c]
    rfl
theorem books_past_nil {S : OffS} (h : S.e ≤ S.st.length) : S.books.past = [] ↔ S.e = 0 := by
  have : S.books.past.length = S.e := by
    show (pastL S.os (S.st.take S.e)).length = _
    rw [pastL_len, List.length_take, Nat.min_eq_left h]
  rw [← List.length_eq_zero_iff, this]
theorem books_und_nil {S : OffS} (h : S.e ≤ S.st.length) : S.books.und = [] ↔ S.e = S.st.length := by
  have : S.books.und.length = S.st.length - S.e := by
    show (undL S.cur (S.st.drop S.e)).reverse.length = _
    rw [List.length_reverse, undL_len, List.length_drop]
  rw [← List.length_eq_zero_iff, this]
  omega
/-! ### on the heap -/
def EnAt (p h : Nat) (H : Hp) (v : V) (e : Ent) : Prop := ∃ u a, v = .ref u ∧ H u = some (.tup [.str e.1, .ref a]) ∧ PartsAt H a p h e.2
def UnAt (p h : Nat) (H : Hp) (v : V) (x : Ent × List Od) : Prop := ∃ u y a, v = .ref u ∧ H u = some (.tup [y, .ref a]) ∧ EnAt p h H y x.1 ∧ PartsAt H a p h x.2
theorem EnAt.keep {p h : Nat} {H H' : Hp} {v : V} {e : Ent} (k : TupKeep H H') (q : EnAt p h H v e) : EnAt p h H' v e := by
  obtain ⟨u, a, e1, h1, h2⟩ := q
  exact ⟨u, a, e1, k _ _ h1, h2.keep k⟩
theorem UnAt.keep {p h : Nat} {H H' : Hp} {v : V} {e : Ent × List Od} (k : TupKeep H H') (q : UnAt p h H v e) : UnAt p h H' v e := by
  obtain ⟨u, y, a, e1, h1, h2, h3⟩ := q
  exact ⟨u, y, a, e1, k _ _ h1, h2.keep k, h3.keep k⟩
structure WV (p h : Nat) (H : Hp) (l : Addr) (W : WSt) (a q u : Addr) (qs us : List V) : Prop where
  at_ : H l = some (.lst [.ref a, .ref q, .ref u])
  parts : PartsAt H a p h W.cur
  q : H q = some (.lst qs)
  past : Paired (EnAt p h H) qs W.past
  u : H u = some (.lst us)
  und : Paired (UnAt p h H) us W.und
theorem WV.same {p h : Nat} {H H' : Hp} {l a q u : Addr} {W : WSt} {qs us : List V} (w : WV p h H l W a q u qs us) (s : Same H H') : WV p h H' l W a q u qs us :=
  ⟨s _ _ w.at_, w.parts.keep (tk_of s), s _ _ w.q, Paired.mapP w.past fun _ _ z => z.keep (tk_of s), s _ _ w.u, Paired.mapP w.und fun _ _ z => z.keep (tk_of s)⟩
theorem dl_not {H : Hp} {d r : Addr} {vs : List V} (D : DAt H d) (h : H r = some (.lst vs)) (hv : ∀ v ∈ vs, ∃ u, v = .ref u) : r ≠ d := fun z => by
  subst z
  obtain ⟨s, c, r', _, _, hd⟩ := D
  rw [hd] at h
  have e : DL s c r' = vs := HO.lst.inj (Option.some.inj h)
  obtain ⟨u, hu⟩ := hv (.int s) (by rw [← e]; exact List.mem_cons_self)
  cases hu
theorem pair_refs {α : Type} {F : V → α → Prop} (hF : ∀ v a, F v a → ∃ u, v = .ref u) : ∀ {vs : List V} {l : List α}, Paired F vs l → ∀ v ∈ vs, ∃ u, v = .ref u
  | _, _, .nil, v, h => by cases h
  | _, _, .cons r t, v, h => by
    rcases List.mem_cons.mp h with rfl | z
    · exact hF _ _ r
    · exact pair_refs hF t v z
theorem WV.but {p h : Nat} {H H' : Hp} {d l a q u : Addr} {W : WSt} {qs us : List V} (w : WV p h H l W a q u qs us) (b : But d H H') (D : DAt H d) : WV p h H' l W a q u qs us := by
  have k := b.tk D
  refine ⟨b _ _ (dl_not D w.at_ fun v m => ?_) w.at_, w.parts.keep k, b _ _ (dl_not D w.q (pair_refs (fun v e z => ?_) w.past)) w.q, Paired.mapP w.past fun _ _ z => z.keep k, b _ _ (dl_not D w.u (pair_refs (fun v e z => ?_) w.und)) w.u, Paired.mapP w.und fun _ _ z => z.keep k⟩
  · simp only [List.mem_cons, List.not_mem_nil, or_false] at m
    rcases m with rfl | rfl | rfl <;> exact ⟨_, rfl⟩
  · obtain ⟨u', _, e1, _⟩ := z
    exact ⟨u', e1⟩
  · obtain ⟨u', _, _, e1, _⟩ := z
    exact ⟨u', e1⟩
theorem same_bk {H H' : Hp} {a : Addr} (s : Same H H') (n : H' a = none) : H a = none := by
  cases e : H a with
  | none => rfl
  | some o => rw [s _ _ e] at n; cases n
abbrev s_l_changed : Stmt := top 45
abbrev N_l_changed : List Str := ["_law_parts", "_law_orders", "_law_operation_here", "_law_word", "_law_index", "_law_rest", "_law_source", "_law_target", "_law_first", "_law_days", "_law_delay", "_law_order_here"]
abbrev P_l_changed : List Str := ["_law_parts", "_law_orders", "_law_operation_here"]
theorem sc_l_changed : FnScope N_l_changed P_l_changed (defScope s_l_changed) := ⟨rfl, rfl, rfl, by decide +kernel, rfl, by decide +kernel, by decide +kernel⟩
/-! ### a change of orders, as the law works it out -/
def errW : Option Nat → Str
  | none => ""
  | some 2 => "number"
  | some 4 => "order"
  | some 5 => "many"
  | _ => ""
def chgO (os : List Od) : OpI → List Od
  | .add od => os ++ [od]
  | .cancel i => wo os i.toNat
  | .prolong i n => setOd os i.toNat (proO ((os[i.toNat]?).getD ⟨0, 0, 0, 0, 0⟩) n)
  | .rais i => ((os[i.toNat]?).getD ⟨0, 0, 0, 0, 0⟩) :: wo os i.toNat
  | .undo => os
  | .redo => os
def ValC (H : Hp) (v : V) (os : List Od) : OpI → Prop
  | .add _ => v = .int os.length
  | .cancel i => ∃ od, os[i.toNat]? = some od ∧ OrdAt H v od
  | .prolong i _ => ∃ od, os[i.toNat]? = some od ∧ v = .int od.n
  | .rais _ => v = .non
  | _ => False
def OpI.chg : OpI → Bool
  | .undo => false
  | .redo => false
  | _ => true
def spChanged : Sp := fun vs H Q _ => ∃ (a t b : Addr) (p h : Nat) (t0 : Addr) (os : List Od) (op : OpI), vs = [.ref a, .ref t, .ref b] ∧ H a = some (.tup [.int p, .int h, .ref t0]) ∧ OrdsTup H t os ∧ os.length ≤ 20 ∧ OpIAt H b op ∧ op.chg = true ∧
  ∀ H' r v t', Same H H' → H r = none → H' r = some (.tup [.str (errW (errI p os op)), v, .ref t']) → (errI p os op = none → ValC H' v os op ∧ OrdsTup H' t' (chgO os op)) → (errI p os op ≠ none → v = .int 0) → Q (.ref r) H'
section
variable {P : Program} {w : World} {K : PySem.W.Frag} {mg : Str → Option Value} {base : Heap}
set_option maxHeartbeats 0 in
theorem ok_changed {f : Addr} {fd : FuncData} (F : Fun K "_law_changed" "_law_changed" s_l_changed f fd) (B : Blt mg) : FnOk P w K mg base CX0 1 f fd P_l_changed spChanged := by
  refine F.ok sc_l_changed (fun vs H Q E h => ?_) (fun cdv A outer s H vs Q E hr h => ?_)
  · obtain ⟨a, t, b, p, h, t0, os, op, rfl, _⟩ := h
    rfl
  · obtain ⟨a, t, b, p, h, t0, os, op, rfl, ha, hO, l20, hb, hc, q⟩ := h
    refine ⟨_, (pss_cons (ps_par (by rfl) sc_l_changed.nd (i := 3) (j := 4) rfl rfl (by decide) rfl rfl (pa_cons (pe_ix ix_tup (pv 2) pe_int (fun _ _ => rfl)) (pa_cons (pe_ix ix_tup (pv 2) pe_int (fun _ _ => rfl)) pa_nil)) (by rfl))
      (pss_cons (ps_if (pt_cmpR op_eq (pv 3) pe_str (nomark _)) (pss_cons (ps_if (pt_cmpR op_gt (pe_ix ix_tup (pv 4) pe_int (fun _ _ => rfl)) (pe_ix ix_tup (pv 0) pe_int (fun _ _ => rfl)) (nomark _)) (pss_one (ps_ret (pe_tup (pa_cons pe_str (pa_cons pe_int (pa_cons (pv 1) pa_nil)))))) pss_nil)
      (pss_one (ps_ret (pe_ifExp (pt_cmpR op_eq (pe_callB call_len_seq (by rfl) B.len PySem.boot_len (pa_cons (pv 1) pa_nil)) pe_int (nomark _)) (pe_tup (pa_cons pe_str (pa_cons pe_int (pa_cons (pv 1) pa_nil)))) (pe_tup (pa_cons pe_str (pa_cons (pe_callB call_len_seq (by rfl) B.len PySem.boot_len (pa_cons (pv 1) pa_nil)) (pa_cons (pe_op op_catA (pv 1) (pe_tup (pa_cons (pv 4) pa_nil))) pa_nil)))))))) pss_nil)
      (pss_cons (ps_if (pt_not (pt_chain op_le op_lt pe_int (pv 4) (pe_callB call_len_seq (by rfl) B.len PySem.boot_len (pa_cons (pv 1) pa_nil)))) (pss_one (ps_ret (pe_tup (pa_cons pe_str (pa_cons pe_int (pa_cons (pv 1) pa_nil)))))) pss_nil)
      (pss_cons (ps_set (i := 5) sc_l_changed.nd rfl (.inl rfl) (pe_op op_catA (pe_slice sl_tupA (pv 1) po_none (po_some (pv 4))) (pe_slice sl_tupA (pv 1) (po_some (pe_op op_add (pv 4) pe_int)) po_none)))
      (pss_cons (ps_if (pt_cmpR op_eq (pv 3) pe_str (nomark _)) (pss_one (ps_ret (pe_tup (pa_cons pe_str (pa_cons (pe_ix ix_tup (pv 1) (pv 4) (fun _ _ => rfl)) (pa_cons (pv 5) pa_nil)))))) pss_nil)
      (pss_cons (ps_if (pt_cmpR op_eq (pv 3) pe_str (nomark _)) (pss_one (ps_ret (pe_tup (pa_cons pe_str (pa_cons pe_non (pa_cons (pe_op op_catA (pe_tup (pa_cons (pe_ix ix_tup (pv 1) (pv 4) (fun _ _ => rfl)) pa_nil)) (pv 5)) pa_nil)))))) pss_nil)
      (pss_cons (ps_if (pt_not (pt_chain op_le op_le pe_int (pe_ix ix_tup (pv 2) pe_int (fun _ _ => rfl)) (pe_ix ix_tup (pv 0) pe_int (fun _ _ => rfl)))) (pss_one (ps_ret (pe_tup (pa_cons pe_str (pa_cons pe_int (pa_cons (pv 1) pa_nil)))))) pss_nil)
      (pss_cons (ps_asg (pe_ix ix_tup (pv 1) (pv 4) (fun _ _ => rfl)) (pg_tup (by rfl) (pgs_cons (pg_name (i := 6) sc_l_changed.nd rfl (.inl rfl)) (pgs_cons (pg_name (i := 7) sc_l_changed.nd rfl (.inl rfl)) (pgs_cons (pg_name (i := 8) sc_l_changed.nd rfl (.inl rfl)) (pgs_cons (pg_name (i := 9) sc_l_changed.nd rfl (.inl rfl)) (pgs_cons (pg_name (i := 10) sc_l_changed.nd rfl (.inl rfl)) pgs_nil)))))))
      (pss_cons (ps_set (i := 11) sc_l_changed.nd rfl (.inl rfl) (pe_tup (pa_cons (pv 6) (pa_cons (pv 7) (pa_cons (pv 8) (pa_cons (pe_ix ix_tup (pv 2) pe_int (fun _ _ => rfl)) (pa_cons (pv 10) pa_nil)))))))
      (pss_one (ps_ret (pe_tup (pa_cons pe_str (pa_cons (pv 9) (pa_cons (pe_op op_catA (pe_op op_catA (pe_slice sl_tupA (pv 1) po_none (po_some (pv 4))) (pe_tup (pa_cons (pv 11) pa_nil))) (pe_slice sl_tupA (pv 1) (po_some (pe_op op_add (pv 4) pe_int)) po_none)) pa_nil))))))))))))))), ?_⟩
    obtain ⟨ts, ht, hP⟩ := id hO
    have tl := hP.length
    have bad : ∀ (wd : Str), (∃ j, errI p os op = some j ∧ errW (some j) = wd) → ∀ H1, Same H H1 → ∀ x, H1 x = none → Q (.ref x) (L2.upd H1 x (.tup [.str wd, .int 0, .ref t])) := fun wd ⟨j, e1, e2⟩ H1 s1 x nx => by
      have s2 := same_upd (o := HO.tup [.str wd, .int 0, .ref t]) nx
      refine q _ x (.int 0) t (s1.trans s2) (same_bk s1 nx) (by rw [e1, e2]; exact upd_same) (fun e => ?_) (fun _ => rfl)
      rw [e1] at e
      cases e
    have good : errI p os op = none → ∀ (v : V) H1 t', Same H H1 → ValC H1 v os op → OrdsTup H1 t' (chgO os op) → ∀ x, H1 x = none → Q (.ref x) (L2.upd H1 x (.tup [.str "", v, .ref t'])) := fun e1 v H1 t' s1 hv hO1 x nx => by
      have s2 := same_upd (o := HO.tup [.str "", v, .ref t']) nx
      refine q _ x v t' (s1.trans s2) (same_bk s1 nx) (by rw [e1]; exact upd_same) (fun _ => ⟨?_, hO1.keep (tk_of s2)⟩) (fun e => absurd e1 e)
      cases op with
      | add od => exact hv
      | cancel i =>
        obtain ⟨od, g1, g2⟩ := hv
        exact ⟨od, g1, g2.keep (tk_of s2)⟩
      | prolong i n => exact hv
      | rais i => exact hv
      | undo => exact hv
      | redo => exact hv
    cases op with
    | add od =>
      obtain ⟨v, hv, u, rfl, hu⟩ := hb
      refine ⟨_, rfl, b, _, 0, _, rfl, rfl, SqT.of hv, atI_nat (j := 0) rfl, _, rfl, b, _, 1, _, rfl, rfl, SqT.of hv, atI_nat (j := 1) rfl, _, _, rfl, ?_⟩
      refine ⟨_, rfl, rfl, _, rfl, str_eqT ?_⟩
      refine ⟨_, rfl, u, _, 3, _, rfl, rfl, SqT.of hu, atI_nat (j := 3) rfl, _, rfl, a, _, 0, _, rfl, rfl, SqT.of ha, atI_nat (j := 0) rfl, _, _, rfl, rfl, _, rfl, ite2 (fun z => ?_) (fun z => ?_)⟩
      · have c : p < od.n := by have := of_decide_eq_true z; omega
        exact ⟨_, rfl, (by show 3 ≤ sizeLine; decide), fun x nx => bad "order" ⟨4, if_pos c, rfl⟩ H (.refl H) x nx⟩
      · have c : ¬ p < od.n := fun y => z (decide_eq_true (by omega))
        refine ⟨_, rfl, t, ts, rfl, .inr (SqT.of ht), rfl, _, rfl, ite2 (fun z2 => ?_) (fun z2 => ?_)⟩
        · have c2 : os.length = 20 := by have := V.int.inj (of_decide_eq_true z2); omega
          exact ⟨_, rfl, (by show 3 ≤ sizeLine; decide), fun x nx => bad "many" ⟨5, by show (if p < od.n then some 4 else if os.length = 20 then some 5 else none) = _; rw [if_neg c, if_pos c2], rfl⟩ H (.refl H) x nx⟩
        · have c2 : ¬ os.length = 20 := fun y => z2 (decide_eq_true (by rw [tl, y]; rfl))
          have en : errI p os (.add od) = none := by show (if p < od.n then some 4 else if os.length = 20 then some 5 else none) = _; rw [if_neg c, if_neg c2]
          refine ⟨_, rfl, t, ts, rfl, .inr (SqT.of ht), _, rfl, _, rfl, (by show 1 ≤ sizeLine; decide), fun y ny => ?_⟩
          have s1 := same_upd (o := HO.tup [.ref u]) ny
          refine catA_case (s1 _ _ ht) upd_same (Nat.le_of_lt (small1000 (by show ts.length + 1 ≤ _; omega))) fun c' H2 s2 hc' => ?_
          have s12 := s1.trans s2
          refine ⟨(by show 3 ≤ sizeLine; decide), fun x nx => ?_⟩
          rw [tl]
          exact good en (.int (os.length : Nat)) H2 c' s12 rfl ⟨_, hc', Paired.app (OrdsAt.keep (tk_of s12) hP) (.cons ⟨u, rfl, s12 _ _ hu⟩ .nil)⟩ x nx
    | cancel i =>
      have hv : H b = some (.tup [.str "cancel", .int i]) := hb
      refine ⟨_, rfl, b, _, 0, _, rfl, rfl, SqT.of hv, atI_nat (j := 0) rfl, _, rfl, b, _, 1, _, rfl, rfl, SqT.of hv, atI_nat (j := 1) rfl, _, _, rfl, ?_⟩
      refine ⟨_, rfl, rfl, _, rfl, str_eqF (by decide +kernel) ?_⟩
      by_cases c : inIx i os
      · have e0 : decide ((0 : Int) ≤ i) = true := decide_eq_true c.1
        have e1 : decide (i < (ts.length : Int)) = true := decide_eq_true (by rw [tl]; exact c.2)
        refine ⟨_, rfl, _, _, rfl, rfl, true, congrArg V.bl e0, iteT ⟨_, rfl, t, ts, rfl, .inr (SqT.of ht), _, _, rfl, rfl, true, congrArg V.bl e1, iteF ?_⟩⟩
        clear e0 e1
        obtain ⟨k, rfl⟩ : ∃ k : Nat, i = (k : Int) := ⟨i.toNat, (Int.toNat_of_nonneg c.1).symm⟩
        have lt : k < os.length := by
          have := c.2
          omega
        refine ⟨_, rfl, _, rfl, _, rfl, slA_case ht fun c1 H1 s1 h1 => ?_⟩
        refine ⟨_, rfl, _, rfl, _, _, rfl, rfl, _, rfl, ?_⟩
        unfold tNoPart
        refine slA_case (s1 _ _ ht) fun c2 H2 s2 h2 => ?_
        rw [show cutV ts none (some (k : Int)) = ts.take k from cut_to (n := k)] at h1
        rw [show cutV ts (some ((k : Int) + 1)) none = ts.drop (k + 1) from cut_from (n := k + 1)] at h2
        refine catA_case (s2 _ _ h1) h2 (Nat.le_of_lt (small1000 (by rw [List.length_take, List.length_drop]; omega))) fun c3 H3 s3 h3 => ?_
        have s13 := s1.trans (s2.trans s3)
        have hO3 : OrdsTup H3 c3 (wo os k) := ⟨_, h3, Paired.app (Paired.take (OrdsAt.keep (tk_of s13) hP) k) (pair_drop (OrdsAt.keep (tk_of s13) hP) (k + 1))⟩
        obtain ⟨v, hvk, hvo⟩ := Paired.get? (i := k) hP (List.getElem?_eq_getElem lt)
        have hvo3 := hvo.keep (tk_of s13)
        have en : errI p os (.cancel (k : Int)) = none := if_pos c
        exact ⟨_, rfl, rfl, _, rfl, str_eqT ⟨_, rfl, _, rfl, t, ts, (k : Int), v, rfl, rfl, SqT.of (s13 _ _ ht), atI_nat hvk, _, rfl, (by show 3 ≤ sizeLine; decide), fun x nx => good en v H3 c3 s13 ⟨_, List.getElem?_eq_getElem lt, hvo3⟩ hO3 x nx⟩⟩
      · have en : errI p os (.cancel i) = some 2 := by show (if inIx i os then _ else some 2) = _; rw [if_neg c]
        by_cases c0 : 0 ≤ i
        · have e0 : decide ((0 : Int) ≤ i) = true := decide_eq_true c0
          have e1 : decide (i < (ts.length : Int)) = false := decide_eq_false fun y => c ⟨c0, by rw [← tl]; exact y⟩
          exact ⟨_, rfl, _, _, rfl, rfl, true, congrArg V.bl e0, iteT ⟨_, rfl, t, ts, rfl, .inr (SqT.of ht), _, _, rfl, rfl, false, congrArg V.bl e1, iteT ⟨_, rfl, (by show 3 ≤ sizeLine; decide), fun x nx => bad "number" ⟨2, en, rfl⟩ H (.refl H) x nx⟩⟩⟩
        · have e0 : decide ((0 : Int) ≤ i) = false := decide_eq_false c0
          exact ⟨_, rfl, _, _, rfl, rfl, false, congrArg V.bl e0, iteF ⟨false, rfl, iteT ⟨_, rfl, (by show 3 ≤ sizeLine; decide), fun x nx => bad "number" ⟨2, en, rfl⟩ H (.refl H) x nx⟩⟩⟩
    | prolong i n =>
      have hv : H b = some (.tup [.str "prolong", .int i, .int n]) := hb
      refine ⟨_, rfl, b, _, 0, _, rfl, rfl, SqT.of hv, atI_nat (j := 0) rfl, _, rfl, b, _, 1, _, rfl, rfl, SqT.of hv, atI_nat (j := 1) rfl, _, _, rfl, ?_⟩
      refine ⟨_, rfl, rfl, _, rfl, str_eqF (by decide +kernel) ?_⟩
      by_cases c : inIx i os
      · have e0 : decide ((0 : Int) ≤ i) = true := decide_eq_true c.1
        have e1 : decide (i < (ts.length : Int)) = true := decide_eq_true (by rw [tl]; exact c.2)
        refine ⟨_, rfl, _, _, rfl, rfl, true, congrArg V.bl e0, iteT ⟨_, rfl, t, ts, rfl, .inr (SqT.of ht), _, _, rfl, rfl, true, congrArg V.bl e1, iteF ?_⟩⟩
        clear e0 e1
        obtain ⟨k, rfl⟩ : ∃ k : Nat, i = (k : Int) := ⟨i.toNat, (Int.toNat_of_nonneg c.1).symm⟩
        have lt : k < os.length := by
          have := c.2
          omega
        refine ⟨_, rfl, _, rfl, _, rfl, slA_case ht fun c1 H1 s1 h1 => ?_⟩
        refine ⟨_, rfl, _, rfl, _, _, rfl, rfl, _, rfl, ?_⟩
        unfold tNoPart
        refine slA_case (s1 _ _ ht) fun c2 H2 s2 h2 => ?_
        rw [show cutV ts none (some (k : Int)) = ts.take k from cut_to (n := k)] at h1
        rw [show cutV ts (some ((k : Int) + 1)) none = ts.drop (k + 1) from cut_from (n := k + 1)] at h2
        refine catA_case (s2 _ _ h1) h2 (Nat.le_of_lt (small1000 (by rw [List.length_take, List.length_drop]; omega))) fun c3 H3 s3 h3 => ?_
        have s13 := s1.trans (s2.trans s3)
        have hO3 : OrdsTup H3 c3 (wo os k) := ⟨_, h3, Paired.app (Paired.take (OrdsAt.keep (tk_of s13) hP) k) (pair_drop (OrdsAt.keep (tk_of s13) hP) (k + 1))⟩
        obtain ⟨v, hvk, hvo⟩ := Paired.get? (i := k) hP (List.getElem?_eq_getElem lt)
        have hvo3 := hvo.keep (tk_of s13)
        refine ⟨_, rfl, rfl, _, rfl, str_eqF (by decide +kernel) ⟨_, rfl, rfl, _, rfl, str_eqF (by decide +kernel) ?_⟩⟩
        have hv3 := s13 _ _ hv
        have ha3 := s13 _ _ ha
        by_cases cn : 1 ≤ n ∧ n ≤ p
        · have en : errI p os (.prolong (k : Int) n) = none := by show (if inIx (k : Int) os then (if 1 ≤ n ∧ n ≤ p then none else some 4) else some 2) = _; rw [if_pos c, if_pos cn]
          refine ⟨_, rfl, b, _, 2, _, rfl, rfl, SqT.of hv3, atI_nat (j := 2) rfl, _, _, rfl, rfl, true, congrArg V.bl (decide_eq_true (show (1 : Int) ≤ (n : Nat) by omega)), iteT ⟨_, rfl, a, _, 0, _, rfl, rfl, SqT.of ha3, atI_nat (j := 0) rfl, _, _, rfl, rfl, true, congrArg V.bl (decide_eq_true (show ((n : Nat) : Int) ≤ (p : Nat) by omega)), iteF ?_⟩⟩
          obtain ⟨u0, rfl, hu0⟩ := hvo3
          refine ⟨_, rfl, _, rfl, t, ts, (k : Int), .ref u0, rfl, rfl, SqT.of (s13 _ _ ht), atI_nat hvk, ?_⟩
          refine ⟨u0, _, rfl, SqT.of hu0, rfl, _, _, rfl, _, _, rfl, _, _, rfl, _, _, rfl, _, _, rfl, rfl, ?_⟩
          refine ⟨_, rfl, _, rfl, _, rfl, _, rfl, b, _, 2, _, rfl, rfl, SqT.of hv3, atI_nat (j := 2) rfl, _, rfl, (by show 5 ≤ sizeLine; decide), fun y ny => ?_⟩
          have s4 := same_upd (o := HO.tup [.int (os[k]).s, .int (os[k]).t, .int (os[k]).f, .int n, .int (os[k]).e]) ny
          have hy : OrdAt (L2.upd H3 y (.tup [.int (os[k]).s, .int (os[k]).t, .int (os[k]).f, .int n, .int (os[k]).e])) (.ref y) (proO (os[k]) n) := ⟨y, rfl, upd_same⟩
          have s14 := s13.trans s4
          generalize (L2.upd H3 y (.tup [.int (os[k]).s, .int (os[k]).t, .int (os[k]).f, .int n, .int (os[k]).e])) = H4 at s4 hy s14
          refine ⟨_, rfl, _, rfl, _, rfl, _, rfl, slA_case (s14 _ _ ht) fun d1 H5 s5 g1 => ?_⟩
          rw [show cutV ts none (some (k : Int)) = ts.take k from cut_to (n := k)] at g1
          refine ⟨_, rfl, (by show 1 ≤ sizeLine; decide), fun y2 ny2 => ?_⟩
          have s6 := same_upd (o := HO.tup [.ref y]) ny2
          refine catA_case (s6 _ _ g1) upd_same (Nat.le_of_lt (small1000 (by rw [List.length_take]; show _ + 1 ≤ 1000; omega))) fun d2 H7 s7 g2 => ?_
          have s47 := s5.trans (s6.trans s7)
          refine ⟨_, rfl, _, rfl, _, _, rfl, rfl, _, rfl, slA_case ((s14.trans s47) _ _ ht) fun d3 H8 s8 g3 => ?_⟩
          rw [show cutV ts (some ((k : Int) + 1)) none = ts.drop (k + 1) from cut_from (n := k + 1)] at g3
          refine catA_case (s8 _ _ g2) g3 (Nat.le_of_lt (small1000 (by rw [List.length_append, List.length_take, List.length_drop]; show _ + 1 + _ ≤ 1000; omega))) fun d4 H9 s9 g4 => ?_
          have s49 := s47.trans (s8.trans s9)
          have k9 := tk_of (s14.trans s49)
          refine ⟨(by show 3 ≤ sizeLine; decide), fun x nx => good en (.int ((os[k]).n : Nat)) H9 d4 (s14.trans s49) ⟨os[k], List.getElem?_eq_getElem lt, rfl⟩ ⟨_, g4, ?_⟩ x nx⟩
          show Paired (OrdAt H9) (ts.take k ++ [.ref y] ++ ts.drop (k + 1)) (setOd os k (proO ((os[k]?).getD ⟨0, 0, 0, 0, 0⟩) n))
          rw [List.getElem?_eq_getElem lt]
          exact Paired.app (Paired.app (Paired.take (OrdsAt.keep k9 hP) k) (.cons (hy.keep (tk_of s49)) .nil)) (pair_drop (OrdsAt.keep k9 hP) (k + 1))
        · have en : errI p os (.prolong (k : Int) n) = some 4 := by show (if inIx (k : Int) os then (if 1 ≤ n ∧ n ≤ p then none else some 4) else some 2) = _; rw [if_pos c, if_neg cn]
          by_cases c1 : 1 ≤ n
          · exact ⟨_, rfl, b, _, 2, _, rfl, rfl, SqT.of hv3, atI_nat (j := 2) rfl, _, _, rfl, rfl, true, congrArg V.bl (decide_eq_true (show (1 : Int) ≤ (n : Nat) by omega)), iteT ⟨_, rfl, a, _, 0, _, rfl, rfl, SqT.of ha3, atI_nat (j := 0) rfl, _, _, rfl, rfl, false, congrArg V.bl (decide_eq_false (show ¬ ((n : Nat) : Int) ≤ (p : Nat) by omega)), iteT ⟨_, rfl, (by show 3 ≤ sizeLine; decide), fun x nx => bad "order" ⟨4, en, rfl⟩ H3 s13 x nx⟩⟩⟩
          · exact ⟨_, rfl, b, _, 2, _, rfl, rfl, SqT.of hv3, atI_nat (j := 2) rfl, _, _, rfl, rfl, false, congrArg V.bl (decide_eq_false (show ¬ (1 : Int) ≤ (n : Nat) by omega)), iteF ⟨false, rfl, iteT ⟨_, rfl, (by show 3 ≤ sizeLine; decide), fun x nx => bad "order" ⟨4, en, rfl⟩ H3 s13 x nx⟩⟩⟩
      · have en : errI p os (.prolong i n) = some 2 := by show (if inIx i os then _ else some 2) = _; rw [if_neg c]
        by_cases c0 : 0 ≤ i
        · have e0 : decide ((0 : Int) ≤ i) = true := decide_eq_true c0
          have e1 : decide (i < (ts.length : Int)) = false := decide_eq_false fun y => c ⟨c0, by rw [← tl]; exact y⟩
          exact ⟨_, rfl, _, _, rfl, rfl, true, congrArg V.bl e0, iteT ⟨_, rfl, t, ts, rfl, .inr (SqT.of ht), _, _, rfl, rfl, false, congrArg V.bl e1, iteT ⟨_, rfl, (by show 3 ≤ sizeLine; decide), fun x nx => bad "number" ⟨2, en, rfl⟩ H (.refl H) x nx⟩⟩⟩
        · have e0 : decide ((0 : Int) ≤ i) = false := decide_eq_false c0
          exact ⟨_, rfl, _, _, rfl, rfl, false, congrArg V.bl e0, iteF ⟨false, rfl, iteT ⟨_, rfl, (by show 3 ≤ sizeLine; decide), fun x nx => bad "number" ⟨2, en, rfl⟩ H (.refl H) x nx⟩⟩⟩
    | rais i =>
      have hv : H b = some (.tup [.str "raise", .int i]) := hb
      refine ⟨_, rfl, b, _, 0, _, rfl, rfl, SqT.of hv, atI_nat (j := 0) rfl, _, rfl, b, _, 1, _, rfl, rfl, SqT.of hv, atI_nat (j := 1) rfl, _, _, rfl, ?_⟩
      refine ⟨_, rfl, rfl, _, rfl, str_eqF (by decide +kernel) ?_⟩
      by_cases c : inIx i os
      · have e0 : decide ((0 : Int) ≤ i) = true := decide_eq_true c.1
        have e1 : decide (i < (ts.length : Int)) = true := decide_eq_true (by rw [tl]; exact c.2)
        refine ⟨_, rfl, _, _, rfl, rfl, true, congrArg V.bl e0, iteT ⟨_, rfl, t, ts, rfl, .inr (SqT.of ht), _, _, rfl, rfl, true, congrArg V.bl e1, iteF ?_⟩⟩
        clear e0 e1
        obtain ⟨k, rfl⟩ : ∃ k : Nat, i = (k : Int) := ⟨i.toNat, (Int.toNat_of_nonneg c.1).symm⟩
        have lt : k < os.length := by
          have := c.2
          omega
        refine ⟨_, rfl, _, rfl, _, rfl, slA_case ht fun c1 H1 s1 h1 => ?_⟩
        refine ⟨_, rfl, _, rfl, _, _, rfl, rfl, _, rfl, ?_⟩
        unfold tNoPart
        refine slA_case (s1 _ _ ht) fun c2 H2 s2 h2 => ?_
        rw [show cutV ts none (some (k : Int)) = ts.take k from cut_to (n := k)] at h1
        rw [show cutV ts (some ((k : Int) + 1)) none = ts.drop (k + 1) from cut_from (n := k + 1)] at h2
        refine catA_case (s2 _ _ h1) h2 (Nat.le_of_lt (small1000 (by rw [List.length_take, List.length_drop]; omega))) fun c3 H3 s3 h3 => ?_
        have s13 := s1.trans (s2.trans s3)
        have hO3 : OrdsTup H3 c3 (wo os k) := ⟨_, h3, Paired.app (Paired.take (OrdsAt.keep (tk_of s13) hP) k) (pair_drop (OrdsAt.keep (tk_of s13) hP) (k + 1))⟩
        obtain ⟨v, hvk, hvo⟩ := Paired.get? (i := k) hP (List.getElem?_eq_getElem lt)
        have hvo3 := hvo.keep (tk_of s13)
        have en : errI p os (.rais (k : Int)) = none := if_pos c
        refine ⟨_, rfl, rfl, _, rfl, str_eqF (by decide +kernel) ⟨_, rfl, rfl, _, rfl, str_eqT ⟨_, rfl, _, rfl, t, ts, (k : Int), v, rfl, rfl, SqT.of (s13 _ _ ht), atI_nat hvk, (by show 1 ≤ sizeLine; decide), fun y ny => ⟨_, rfl, ?_⟩⟩⟩⟩
        have s4 := same_upd (o := HO.tup [v]) ny
        refine catA_case upd_same (s4 _ _ h3) (Nat.le_of_lt (small1000 (by rw [List.length_append, List.length_take, List.length_drop]; show 1 + _ ≤ 1000; omega))) fun c5 H5 s5 h5 => ?_
        have s45 := s4.trans s5
        obtain ⟨ts3, h3', hP3⟩ := hO3
        refine ⟨(by show 3 ≤ sizeLine; decide), fun x nx => good en .non H5 c5 (s13.trans s45) rfl ⟨_, h5, ?_⟩ x nx⟩
        show Paired (OrdAt H5) ([v] ++ (ts.take k ++ ts.drop (k + 1))) (((os[k]?).getD ⟨0, 0, 0, 0, 0⟩) :: wo os k)
        rw [List.getElem?_eq_getElem lt]
        have e33 := HO.tup.inj (Option.some.inj (h3'.symm.trans h3))
        rw [← e33]
        exact .cons (hvo3.keep (tk_of s45)) (OrdsAt.keep (tk_of s45) hP3)
      · have en : errI p os (.rais i) = some 2 := by show (if inIx i os then _ else some 2) = _; rw [if_neg c]
        by_cases c0 : 0 ≤ i
        · have e0 : decide ((0 : Int) ≤ i) = true := decide_eq_true c0
          have e1 : decide (i < (ts.length : Int)) = false := decide_eq_false fun y => c ⟨c0, by rw [← tl]; exact y⟩
          exact ⟨_, rfl, _, _, rfl, rfl, true, congrArg V.bl e0, iteT ⟨_, rfl, t, ts, rfl, .inr (SqT.of ht), _, _, rfl, rfl, false, congrArg V.bl e1, iteT ⟨_, rfl, (by show 3 ≤ sizeLine; decide), fun x nx => bad "number" ⟨2, en, rfl⟩ H (.refl H) x nx⟩⟩⟩
        · have e0 : decide ((0 : Int) ≤ i) = false := decide_eq_false c0
          exact ⟨_, rfl, _, _, rfl, rfl, false, congrArg V.bl e0, iteF ⟨false, rfl, iteT ⟨_, rfl, (by show 3 ≤ sizeLine; decide), fun x nx => bad "number" ⟨2, en, rfl⟩ H (.refl H) x nx⟩⟩⟩
    | undo => cases hc
    | redo => cases hc
end
/-! ### orders as data -/
def odD (o : Od) : PyData := .tuple [.int o.s, .int o.t, .int o.f, .int o.n, .int o.e]
theorem od_dp {K : PySem.W.Frag} {H : Hp} {v : V} {o : Od} (h : OrdAt H v o) : Dp K H v (odD o) := by
  obtain ⟨u, rfl, hu⟩ := h
  exact .tup (SqT.of hu) (.cons (.int _) (.cons (.int _) (.cons (.int _) (.cons (.int _) (.cons (.int _) .nil)))))
theorem ints_flat (l : List Nat) : (nints l).all flatV = true := by
  unfold nints
  rw [List.all_eq_true]
  intro v hv
  obtain ⟨n, _, rfl⟩ := List.mem_map.mp hv
  rfl
theorem inV_ints {d : Nat} (l : List Nat) : inV (.int (d : Nat)) (nints l) = decide (d ∈ l) := by
  unfold inV nints
  induction l with
  | nil => rfl
  | cons n r ih =>
    rw [List.map_cons, List.any_cons, ih]
    have e : eqV (V.int (n : Int)) (V.int (d : Int)) = decide ((n : Int) = (d : Int)) := rfl
    rw [e]
    by_cases h1 : n = d
    · subst h1
      simp
    · rw [decide_eq_false (show ¬ (n : Int) = (d : Int) by omega), Bool.false_or]
      by_cases h2 : d ∈ r
      · rw [decide_eq_true h2, decide_eq_true (List.mem_cons_of_mem _ h2)]
      · rw [decide_eq_false h2, decide_eq_false fun z => (List.mem_cons.mp z).elim (fun y => h1 y.symm) h2]
theorem ods_dp {K : PySem.W.Frag} {H : Hp} {vs : List V} {l : List Od} (h : Paired (OrdAt H) vs l) : DpAll K H vs (l.map odD) := by
  induction h with
  | nil => exact .nil
  | cons r _ ih => exact .cons (od_dp r) ih
theorem ods_depth : ∀ l : List Od, PyData.depthAll (l.map odD) ≤ 1
  | [] => by simp [PyData.depthAll]
  | s :: l => by
    have h1 := ods_depth l
    have h2 : (odD s).depth = 1 := by simp [odD, PyData.depth, PyData.depthAll]
    simp only [List.map_cons, PyData.depthAll]
    omega
theorem ods_lay : ∀ l : List Od, PyData.canLayAll0 (l.map odD) = true
  | [] => by simp [PyData.canLayAll0]
  | s :: l => by
    have h : (odD s).canLay0 = true := by simp [odD, PyData.canLay0, PyData.canLayAll0]
    simp [PyData.canLayAll0, h, ods_lay l]
theorem ods_shaped (l : List Od) : PySem.SeqAt.shaped (.tuple (l.map odD)) = true := by
  have h1 := ods_depth l
  show (PyData.canLay0 (.tuple (l.map odD)) && decide (PyData.depth (.tuple (l.map odD)) ≤ 64)) = true
  rw [Bool.and_eq_true]
  refine ⟨by simp only [PyData.canLay0]; exact ods_lay l, decide_eq_true ?_⟩
  simp only [PyData.depth]
  omega
theorem od_shaped (o : Od) : PySem.SeqAt.shaped (odD o) = true := by
  show ((odD o).canLay0 && decide ((odD o).depth ≤ 64)) = true
  rw [Bool.and_eq_true]
  refine ⟨by simp [odD, PyData.canLay0, PyData.canLayAll0], decide_eq_true ?_⟩
  have h2 : (odD o).depth = 1 := by simp [odD, PyData.depth, PyData.depthAll]
  omega
theorem od_self (o : Od) : PyData.eqv (odD o) (odD o) = true := PySem.SeqAt.eqv_refl _ (PySem.SeqAt.canLay_of_shaped (od_shaped o))
abbrev s_l_worked : Stmt := top 46
abbrev N_l_worked : List Str := ["_law_w", "_law_operation_here", "_law_parts", "_law_past", "_law_undone", "_law_word", "_law_orders", "_law_entry", "_law_after", "_law_error", "_law_value", "_law_changed_here"]
abbrev P_l_worked : List Str := ["_law_w", "_law_operation_here"]
theorem sc_l_worked : FnScope N_l_worked P_l_worked (defScope s_l_worked) := ⟨rfl, rfl, rfl, by decide +kernel, rfl, by decide +kernel, by decide +kernel⟩
/-! ### an operation worked out by the law -/
theorem shL2 {ds : List PyData} (h : ∀ d ∈ ds, d.canLay0 = true ∧ d.depth ≤ 63) : PySem.SeqAt.shaped (.list ds) = true := by
  have h1 : PyData.canLayAll0 ds = true := by
    induction ds with
    | nil => simp [PyData.canLayAll0]
    | cons d r ih => simp [PyData.canLayAll0, (h d (List.mem_cons_self ..)).1, ih fun x hx => h x (List.mem_cons_of_mem _ hx)]
  have h2 : PyData.depthAll ds ≤ 63 := by
    clear h1
    induction ds with
    | nil => simp [PyData.depthAll]
    | cons d r ih =>
      have a := (h d (List.mem_cons_self ..)).2
      have b := ih fun x hx => h x (List.mem_cons_of_mem _ hx)
      simp only [PyData.depthAll]
      omega
  show (PyData.canLay0 (.list ds) && decide (PyData.depth (.list ds) ≤ 64)) = true
  rw [Bool.and_eq_true]
  refine ⟨by simp only [PyData.canLay0]; exact h1, decide_eq_true ?_⟩
  simp only [PyData.depth]
  omega
def ptD (p h : Nat) (os : List Od) : PyData := .tuple [.int p, .int h, .tuple (os.map odD)]
def enD (p h : Nat) (e : Ent) : PyData := .tuple [.str e.1, ptD p h e.2]
def unD (p h : Nat) (x : Ent × List Od) : PyData := .tuple [enD p h x.1, ptD p h x.2]
theorem pt_lay (p h : Nat) (os : List Od) : (ptD p h os).canLay0 = true := by simp [ptD, PyData.canLay0, PyData.canLayAll0, ods_lay]
theorem pt_depth (p h : Nat) (os : List Od) : (ptD p h os).depth ≤ 10 := by
  have := ods_depth os
  simp only [ptD, PyData.depth, PyData.depthAll]
  omega
theorem en_lay (p h : Nat) {e : Ent} (k : PyData.strOk e.1 = true) : (enD p h e).canLay0 = true := by simp [enD, PyData.canLay0, PyData.canLayAll0, pt_lay, k]
theorem en_depth (p h : Nat) (e : Ent) : (enD p h e).depth ≤ 11 := by
  have := pt_depth p h e.2
  simp only [enD, PyData.depth, PyData.depthAll]
  omega
theorem un_lay (p h : Nat) {x : Ent × List Od} (k : PyData.strOk x.1.1 = true) : (unD p h x).canLay0 = true := by simp [unD, PyData.canLay0, PyData.canLayAll0, pt_lay, en_lay p h k]
theorem un_depth (p h : Nat) (x : Ent × List Od) : (unD p h x).depth ≤ 12 := by
  have := pt_depth p h x.2
  have := en_depth p h x.1
  simp only [unD, PyData.depth, PyData.depthAll]
  omega
theorem list_nil (ds : List PyData) : PyData.eqv (.list ds) (.list []) = decide (ds = []) := by
  cases ds with
  | nil => decide +kernel
  | cons d r =>
    rw [decide_eq_false (by intro z; cases z)]
    simp [PyData.eqv, PyData.eqvAll]
section
variable {K : PySem.W.Frag} {H : Hp} {p h : Nat}
theorem pt_dp {a : Addr} {os : List Od} (q : PartsAt H a p h os) : Dp K H (.ref a) (ptD p h os) := by
  obtain ⟨t, h1, ts, h2, h3⟩ := q
  exact .tup (SqT.of h1) (.cons (.int _) (.cons (.int _) (.cons (.tup (SqT.of h2) (ods_dp h3)) .nil)))
theorem en_dp {v : V} {e : Ent} (q : EnAt p h H v e) : Dp K H v (enD p h e) := by
  obtain ⟨u, a, rfl, h1, h2⟩ := q
  exact .tup (SqT.of h1) (.cons (.str _) (.cons (pt_dp h2) .nil))
theorem un_dp {v : V} {x : Ent × List Od} (q : UnAt p h H v x) : Dp K H v (unD p h x) := by
  obtain ⟨u, y, a, rfl, h1, h2, h3⟩ := q
  exact .tup (SqT.of h1) (.cons (en_dp h2) (.cons (pt_dp h3) .nil))
theorem ens_dp : ∀ {vs : List V} {l : List Ent}, Paired (EnAt p h H) vs l → DpAll K H vs (l.map (enD p h))
  | _, _, .nil => .nil
  | _, _, .cons r t => .cons (en_dp r) (ens_dp t)
theorem uns_dp : ∀ {vs : List V} {l : List (Ent × List Od)}, Paired (UnAt p h H) vs l → DpAll K H vs (l.map (unD p h))
  | _, _, .nil => .nil
  | _, _, .cons r t => .cons (un_dp r) (uns_dp t)
end
theorem pair_snoc {α β : Type} {F : α → β → Prop} {xs : List α} {l : List β} {y : β} (h : Paired F xs (l ++ [y])) : ∃ xs' x, xs = xs' ++ [x] ∧ Paired F xs' l ∧ F x y := by
  induction l generalizing xs with
  | nil =>
    cases h with
    | cons r t =>
      cases t
      exact ⟨[], _, rfl, .nil, r⟩
  | cons z l ih =>
    cases h with
    | cons r t =>
      obtain ⟨xs', x, rfl, a, b⟩ := ih t
      exact ⟨_ :: xs', x, rfl, .cons r a, b⟩
theorem cut_last2 {xs : List V} {v : V} : cutV (xs ++ [v]) none (some (-1)) = xs := by
  unfold cutV
  rw [HT.sIx_none, show HT.sIx (xs ++ [v]).length (xs ++ [v]).length (some (-1)) = xs.length by
    rw [List.length_append, List.length_singleton]
    unfold HT.sIx
    simp only
    rw [if_pos (by decide)]
    omega]
  simp
def wordI : OpI → Str
  | .add _ => "add"
  | .cancel _ => "cancel"
  | .prolong _ _ => "prolong"
  | .rais _ => "raise"
  | .undo => "undo"
  | .redo => "redo"
def wNext (W : WSt) : OpI → WSt
  | .undo => match W.past.getLast? with
    | none => W
    | some en => ⟨en.2, W.past.dropLast, W.und ++ [(en, W.cur)]⟩
  | .redo => match W.und.getLast? with
    | none => W
    | some x => ⟨x.2, W.past ++ [x.1], W.und.dropLast⟩
  | op => ⟨chgO W.cur op, W.past ++ [(wordI op, W.cur)], []⟩
def ValW (H : Hp) (v : V) (W : WSt) : OpI → Prop
  | .undo => v = .bl (decide (W.past ≠ []))
  | .redo => v = .bl (decide (W.und ≠ []))
  | op => ValC H v W.cur op
theorem errI_some {p : Nat} {cur : List Od} {op : OpI} {j : Nat} (e : errI p cur op = some j) : j = 2 ∨ j = 4 ∨ j = 5 := by
  cases op with
  | add od =>
    have e : (if p < od.n then some 4 else if cur.length = 20 then some 5 else none) = some j := e
    split at e
    · cases e; exact .inr (.inl rfl)
    · split at e
      · cases e; exact .inr (.inr rfl)
      · cases e
  | cancel i =>
    have e : (if inIx i cur then none else some 2) = some j := e
    split at e
    · cases e
    · cases e; exact .inl rfl
  | prolong i n =>
    have e : (if inIx i cur then (if 1 ≤ n ∧ n ≤ p then none else some 4) else some 2) = some j := e
    split at e
    · split at e
      · cases e
      · cases e; exact .inr (.inl rfl)
    · cases e; exact .inl rfl
  | rais i =>
    have e : (if inIx i cur then none else some 2) = some j := e
    split at e
    · cases e
    · cases e; exact .inl rfl
  | undo => cases e
  | redo => cases e
theorem errW_ne {j : Nat} (h : j = 2 ∨ j = 4 ∨ j = 5) : ¬ errW (some j) = ("" : Str) := by
  rcases h with rfl | rfl | rfl <;> decide +kernel
theorem valC_keep {H H' : Hp} {v : V} {os : List Od} {op : OpI} (k : TupKeep H H') (h : ValC H v os op) : ValC H' v os op := by
  cases op with
  | add od => exact h
  | cancel i =>
    obtain ⟨od, g1, g2⟩ := h
    exact ⟨od, g1, g2.keep k⟩
  | prolong i n => exact h
  | rais i => exact h
  | undo => exact h
  | redo => exact h
def spWorked : Sp := fun vs H Q _ => ∃ (l b : Addr) (p h : Nat) (W : WSt) (a q u : Addr) (qs us : List V) (op : OpI), vs = [.ref l, .ref b] ∧ WV p h H l W a q u qs us ∧ OpIAt H b op ∧ W.cur.length ≤ 20 ∧ W.past.length ≤ 900 ∧ W.und.length ≤ 900 ∧ (∀ e ∈ W.past, PyData.strOk e.1 = true) ∧ (∀ x ∈ W.und, PyData.strOk x.1.1 = true) ∧
  (∀ j H' r, errI p W.cur op = some j → Same H H' → H' r = some (.tup [.str (errW (some j)), .int 0]) → Q (.ref r) H') ∧
  (∀ H' r v l' a' q' u' qs' us', errI p W.cur op = none → Same H H' → H' r = some (.tup [.str "", v, .ref l']) → ValW H' v W op → WV p h H' l' (wNext W op) a' q' u' qs' us' → Q (.ref r) H')
/-- the books are the old ones or new -/
def LQU (H : Hp) (l q u l' q' u' : Addr) : Prop := (l' = l ∨ H l' = none) ∧ (q' = q ∨ H q' = none) ∧ (u' = u ∨ H u' = none)
def spWorkedN : Sp := fun vs H Q _ => ∃ (l b : Addr) (p h : Nat) (W : WSt) (a q u : Addr) (qs us : List V) (op : OpI), vs = [.ref l, .ref b] ∧ WV p h H l W a q u qs us ∧ OpIAt H b op ∧ W.cur.length ≤ 20 ∧ W.past.length ≤ 900 ∧ W.und.length ≤ 900 ∧ (∀ e ∈ W.past, PyData.strOk e.1 = true) ∧ (∀ x ∈ W.und, PyData.strOk x.1.1 = true) ∧
  (∀ j H' r, errI p W.cur op = some j → Same H H' → H' r = some (.tup [.str (errW (some j)), .int 0]) → Q (.ref r) H') ∧
  (∀ H' r v l' a' q' u' qs' us', errI p W.cur op = none → Same H H' → H' r = some (.tup [.str "", v, .ref l']) → ValW H' v W op → WV p h H' l' (wNext W op) a' q' u' qs' us' → LQU H l q u l' q' u' → Q (.ref r) H')
section
variable {P : Program} {w : World} {K : PySem.W.Frag} {mg : Str → Option Value} {base : Heap}
set_option maxHeartbeats 0 in
theorem ok_workedN {f : Addr} {fd : FuncData} (F : Fun K "_law_worked" "_law_worked" s_l_worked f fd) (B : Blt mg) (DC : Df P w K mg base "_law_changed" 1 P_l_changed spChanged) : FnOk P w K mg base CX0 2 f fd P_l_worked spWorkedN := by
  obtain ⟨fC, fdC, gC, kC, bC, GC⟩ := DC
  refine F.ok sc_l_worked (fun vs H Q E h => ?_) (fun cdv A outer s H vs Q E hr h => ?_)
  · obtain ⟨l, b, p, h, W, a, q, u, qs, us, op, rfl, _⟩ := h
    rfl
  · obtain ⟨l, b, p, h, W, a, q, u, qs, us, op, rfl, R, hb, l20, lp, lu, ok1, ok2, q1, q2⟩ := h
    have hr1 : Room 1 _ := hr
    have hu : (A.deeper (PyProof.Rows.envOfC "_law_worked" (defScope s_l_worked) s.heap.objs.size f cdv)).units + 64 < cLine := hr.units
    refine ⟨_, (pss_cons (ps_asg (pv 0) (pg_unl (by rfl) (pgs_cons (pg_name (i := 2) sc_l_worked.nd rfl (.inl rfl)) (pgs_cons (pg_name (i := 3) sc_l_worked.nd rfl (.inl rfl)) (pgs_cons (pg_name (i := 4) sc_l_worked.nd rfl (.inl rfl)) pgs_nil)))))
      (pss_cons (ps_par (by rfl) sc_l_worked.nd (i := 5) (j := 6) rfl rfl (by decide) rfl rfl (pa_cons (pe_ix ix_tup (pv 1) pe_int (fun _ _ => rfl)) (pa_cons (pe_ix ix_tup (pv 2) pe_int (fun _ _ => rfl)) pa_nil)) (by rfl))
      (pss_cons (ps_if (pt_cmpR op_eq (pv 5) pe_str (nomark _)) (pss_cons (ps_if (pt_cmpR (op_eqD hu) (pv 3) (pe_lst pa_nil) (nomark _)) (pss_one (ps_ret (pe_tup (pa_cons pe_str (pa_cons pe_bl (pa_cons (pv 0) pa_nil)))))) pss_nil)
      (pss_one (ps_ret (pe_tup (pa_cons pe_str (pa_cons pe_bl (pa_cons (pe_lst (pa_cons (pe_ix ix_tup (pe_ix ix_list (pv 3) (pe_un un_neg pe_int) (fun _ _ => rfl)) pe_int (fun _ _ => rfl)) (pa_cons (pe_slice sl_list (pv 3) po_none (po_some (pe_un un_neg pe_int))) (pa_cons (pe_op op_cat (pv 4) (pe_lst (pa_cons (pe_tup (pa_cons (pe_ix ix_list (pv 3) (pe_un un_neg pe_int) (fun _ _ => rfl)) (pa_cons (pv 2) pa_nil))) pa_nil))) pa_nil)))) pa_nil))))))) pss_nil)
      (pss_cons (ps_if (pt_cmpR op_eq (pv 5) pe_str (nomark _)) (pss_cons (ps_if (pt_cmpR (op_eqD hu) (pv 4) (pe_lst pa_nil) (nomark _)) (pss_one (ps_ret (pe_tup (pa_cons pe_str (pa_cons pe_bl (pa_cons (pv 0) pa_nil)))))) pss_nil)
      (pss_cons (ps_asg (pe_ix ix_list (pv 4) (pe_un un_neg pe_int) (fun _ _ => rfl)) (pg_tup (by rfl) (pgs_cons (pg_name (i := 7) sc_l_worked.nd rfl (.inl rfl)) (pgs_cons (pg_name (i := 8) sc_l_worked.nd rfl (.inl rfl)) pgs_nil))))
      (pss_one (ps_ret (pe_tup (pa_cons pe_str (pa_cons pe_bl (pa_cons (pe_lst (pa_cons (pv 8) (pa_cons (pe_op op_cat (pv 3) (pe_lst (pa_cons (pv 7) pa_nil))) (pa_cons (pe_slice sl_list (pv 4) po_none (po_some (pe_un un_neg pe_int))) pa_nil)))) pa_nil)))))))) pss_nil)
      (pss_cons (ps_asg (pe_call GC hr1 (by rfl) gC kC bC .nil pass0 (pa_cons (pv 2) (pa_cons (pv 6) (pa_cons (pv 1) pa_nil)))) (pg_tup (by rfl) (pgs_cons (pg_name (i := 9) sc_l_worked.nd rfl (.inl rfl)) (pgs_cons (pg_name (i := 10) sc_l_worked.nd rfl (.inl rfl)) (pgs_cons (pg_name (i := 11) sc_l_worked.nd rfl (.inl rfl)) pgs_nil)))))
      (pss_cons (ps_if (pt_cmpR op_ne (pv 9) pe_str (nomark _)) (pss_one (ps_ret (pe_tup (pa_cons (pv 9) (pa_cons pe_int pa_nil))))) pss_nil)
      (pss_one (ps_ret (pe_tup (pa_cons pe_str (pa_cons (pv 10) (pa_cons (pe_lst (pa_cons (pe_tup (pa_cons (pe_ix ix_tup (pv 2) pe_int (fun _ _ => rfl)) (pa_cons (pe_ix ix_tup (pv 2) pe_int (fun _ _ => rfl)) (pa_cons (pv 11) pa_nil)))) (pa_cons (pe_op op_cat (pv 3) (pe_lst (pa_cons (pe_tup (pa_cons (pv 5) (pa_cons (pv 2) pa_nil))) pa_nil))) (pa_cons (pe_lst pa_nil) pa_nil)))) pa_nil)))))))))))), ?_⟩
    obtain ⟨t, ha, hO⟩ := id R.parts
    have sh1 : PySem.SeqAt.shaped (.list (W.past.map (enD p h))) = true := shL2 fun d hd => by
      obtain ⟨e, he, rfl⟩ := List.mem_map.mp hd
      exact ⟨en_lay p h (ok1 e he), Nat.le_trans (en_depth p h e) (by decide)⟩
    have sh2 : PySem.SeqAt.shaped (.list (W.und.map (unD p h))) = true := shL2 fun d hd => by
      obtain ⟨e, he, rfl⟩ := List.mem_map.mp hd
      exact ⟨un_lay p h (ok2 e he), Nat.le_trans (un_depth p h e) (by decide)⟩
    have pl := R.past.length
    have ul := R.und.length
    refine ⟨_, rfl, l, _, rfl, SqL.of R.at_, rfl, _, _, rfl, _, _, rfl, _, _, rfl, rfl, ?_⟩
    cases op with
    | undo =>
      have hv : H b = some (.tup [.str "undo"]) := hb
      refine ⟨_, rfl, b, _, 0, _, rfl, rfl, SqT.of hv, atI_nat (j := 0) rfl, _, rfl, a, _, 2, _, rfl, rfl, SqT.of ha, atI_nat (j := 2) rfl, _, _, rfl, ?_⟩
      refine ⟨_, rfl, rfl, _, rfl, str_eqT ?_⟩
      refine ⟨_, rfl, (by show 0 ≤ sizeLine; decide), fun e ne => ?_⟩
      have s1 := same_upd (o := HO.lst []) ne
      have R1 := R.same s1
      refine ⟨_, .list [], .lst (SqL.of R1.q) (ens_dp R1.past), .lst (SqL.of upd_same) .nil, sh1, by decide +kernel, _, rfl, ?_⟩
      rw [list_nil]
      generalize (L2.upd H e (.lst [])) = H1 at s1 R1
      refine ite2 (fun z => ?_) (fun z => ?_)
      · have pn : W.past = [] := List.map_eq_nil_iff.mp (of_decide_eq_true z)
        refine ⟨_, rfl, (by show 3 ≤ sizeLine; decide), fun x nx => ?_⟩
        have s2 := same_upd (o := HO.tup [.str "", .bl false, .ref l]) nx
        refine q2 _ x (.bl false) l a q u qs us rfl (s1.trans s2) upd_same (by show V.bl false = .bl (decide (W.past ≠ [])); rw [decide_eq_false (fun y => y pn)]) ?_ ⟨.inl rfl, .inl rfl, .inl rfl⟩
        have e : wNext W .undo = W := by
          show (match W.past.getLast? with | none => W | some en => _) = W
          rw [pn]
          rfl
        rw [e]
        exact R1.same s2
      · have pn : W.past ≠ [] := fun y => z (decide_eq_true (by rw [y]; rfl))
        obtain ⟨ps, en, ep⟩ : ∃ ps en, W.past = ps ++ [en] := ⟨W.past.dropLast, W.past.getLast pn, (List.dropLast_concat_getLast pn).symm⟩
        have hP := R1.past
        rw [ep] at hP
        obtain ⟨qs', ye, rfl, hq', hye⟩ := pair_snoc hP
        obtain ⟨ue, ae, rfl, he1, he2⟩ := hye
        have hq1 := R1.q
        refine ⟨_, rfl, 1, rfl, q, _, -1, .ref ue, rfl, rfl, SqL.of hq1, atI_last _ _, ue, _, 1, _, rfl, rfl, SqT.of he1, atI_nat (j := 1) rfl, ?_⟩
        refine ⟨_, rfl, 1, rfl, -1, rfl, q, _, rfl, SqL.of hq1, fun sa nsa => ?_⟩
        rw [cut_last2]
        have s2 := same_upd (o := HO.lst qs') nsa
        have R2 := R1.same s2
        refine ⟨_, rfl, _, rfl, 1, rfl, q, _, -1, .ref ue, rfl, rfl, SqL.of R2.q, atI_last _ _, _, rfl, (by show 2 ≤ sizeLine; decide), fun y ny => ?_⟩
        have s3 := same_upd (o := HO.tup [.ref ue, .ref a]) ny
        refine ⟨(by show 1 ≤ sizeLine; decide), fun z nz => ?_⟩
        have s4 := same_upd (o := HO.lst [.ref y]) nz
        have R4 := R2.same (s3.trans s4)
        refine ⟨u, z, us, _, rfl, rfl, R4.u, upd_same, Nat.le_of_lt (small1000 (by show us.length + 1 ≤ 1000; omega)), fun c nc => ?_⟩
        have s5 := same_upd (o := HO.lst (us ++ [.ref y])) nc
        refine ⟨(by show 3 ≤ sizeLine; decide), fun l2 nl2 => ?_⟩
        have s6 := same_upd (o := HO.lst [.ref ae, .ref sa, .ref c]) nl2
        refine ⟨(by show 3 ≤ sizeLine; decide), fun x nx => ?_⟩
        have s7 := same_upd (o := HO.tup [.str "", .bl true, .ref l2]) nx
        have s27 := s2.trans (s3.trans (s4.trans (s5.trans (s6.trans s7))))
        refine q2 _ x (.bl true) l2 ae sa c qs' (us ++ [.ref y]) rfl (s1.trans s27) upd_same (by show V.bl true = .bl (decide (W.past ≠ [])); rw [decide_eq_true pn]) ?_ ⟨.inr ((s1.trans (s2.trans (s3.trans (s4.trans s5)))).free nl2), .inr (s1.free nsa), .inr ((s1.trans (s2.trans (s3.trans s4))).free nc)⟩
        have e : wNext W .undo = ⟨en.2, ps, W.und ++ [(en, W.cur)]⟩ := by
          show (match W.past.getLast? with | none => W | some en => WSt.mk en.2 W.past.dropLast (W.und ++ [(en, W.cur)])) = _
          rw [ep, List.getLast?_concat, List.dropLast_concat]
        rw [e]
        have R7 := R1.same s27
        have k7 := tk_of s27
        exact ⟨s7 _ _ upd_same, he2.keep k7, (s3.trans (s4.trans (s5.trans (s6.trans s7)))) _ _ upd_same, Paired.mapP hq' fun _ _ z => z.keep k7, (s6.trans s7) _ _ upd_same, Paired.app R7.und (.cons ⟨y, .ref ue, a, rfl, (s4.trans (s5.trans (s6.trans s7))) _ _ upd_same, ⟨ue, ae, rfl, k7 _ _ he1, he2.keep k7⟩, R7.parts⟩ .nil)⟩
    | redo =>
      have hv : H b = some (.tup [.str "redo"]) := hb
      refine ⟨_, rfl, b, _, 0, _, rfl, rfl, SqT.of hv, atI_nat (j := 0) rfl, _, rfl, a, _, 2, _, rfl, rfl, SqT.of ha, atI_nat (j := 2) rfl, _, _, rfl, ?_⟩
      refine ⟨_, rfl, rfl, _, rfl, str_eqF (by decide +kernel) ⟨_, rfl, rfl, _, rfl, str_eqT ?_⟩⟩
      refine ⟨_, rfl, (by show 0 ≤ sizeLine; decide), fun e ne => ?_⟩
      have s1 := same_upd (o := HO.lst []) ne
      have R1 := R.same s1
      refine ⟨_, .list [], .lst (SqL.of R1.u) (uns_dp R1.und), .lst (SqL.of upd_same) .nil, sh2, by decide +kernel, _, rfl, ?_⟩
      rw [list_nil]
      generalize (L2.upd H e (.lst [])) = H1 at s1 R1
      refine ite2 (fun z => ?_) (fun z => ?_)
      · have pn : W.und = [] := List.map_eq_nil_iff.mp (of_decide_eq_true z)
        refine ⟨_, rfl, (by show 3 ≤ sizeLine; decide), fun x nx => ?_⟩
        have s2 := same_upd (o := HO.tup [.str "", .bl false, .ref l]) nx
        refine q2 _ x (.bl false) l a q u qs us rfl (s1.trans s2) upd_same (by show V.bl false = .bl (decide (W.und ≠ [])); rw [decide_eq_false (fun y => y pn)]) ?_ ⟨.inl rfl, .inl rfl, .inl rfl⟩
        have e : wNext W .redo = W := by
          show (match W.und.getLast? with | none => W | some en => _) = W
          rw [pn]
          rfl
        rw [e]
        exact R1.same s2
      · have pn : W.und ≠ [] := fun y => z (decide_eq_true (by rw [y]; rfl))
        obtain ⟨ps, en, ep⟩ : ∃ ps en, W.und = ps ++ [en] := ⟨W.und.dropLast, W.und.getLast pn, (List.dropLast_concat_getLast pn).symm⟩
        have hP := R1.und
        rw [ep] at hP
        obtain ⟨us', ye, rfl, hu', hye⟩ := pair_snoc hP
        obtain ⟨ue, yy, ae, rfl, he1, he2, he3⟩ := hye
        refine ⟨_, rfl, 1, rfl, u, _, -1, .ref ue, rfl, rfl, SqL.of R1.u, atI_last _ _, ?_⟩
        refine ⟨ue, _, rfl, SqT.of he1, rfl, _, _, rfl, _, _, rfl, rfl, ?_⟩
        refine ⟨_, rfl, _, rfl, _, rfl, (by show 1 ≤ sizeLine; decide), fun z nz => ?_⟩
        have s2 := same_upd (o := HO.lst [yy]) nz
        have R2 := R1.same s2
        refine ⟨q, z, qs, _, rfl, rfl, R2.q, upd_same, Nat.le_of_lt (small1000 (by show qs.length + 1 ≤ 1000; omega)), fun c nc => ?_⟩
        have s3 := same_upd (o := HO.lst (qs ++ [yy])) nc
        refine ⟨_, rfl, 1, rfl, -1, rfl, u, _, rfl, SqL.of (s3 _ _ R2.u), fun sa nsa => ?_⟩
        rw [cut_last2]
        have s4 := same_upd (o := HO.lst us') nsa
        refine ⟨(by show 3 ≤ sizeLine; decide), fun l2 nl2 => ?_⟩
        have s6 := same_upd (o := HO.lst [.ref ae, .ref c, .ref sa]) nl2
        refine ⟨(by show 3 ≤ sizeLine; decide), fun x nx => ?_⟩
        have s7 := same_upd (o := HO.tup [.str "", .bl true, .ref l2]) nx
        have s27 := s2.trans (s3.trans (s4.trans (s6.trans s7)))
        refine q2 _ x (.bl true) l2 ae c sa (qs ++ [yy]) us' rfl (s1.trans s27) upd_same (by show V.bl true = .bl (decide (W.und ≠ [])); rw [decide_eq_true pn]) ?_ ⟨.inr ((s1.trans (s2.trans (s3.trans s4))).free nl2), .inr ((s1.trans s2).free nc), .inr ((s1.trans (s2.trans s3)).free nsa)⟩
        have e : wNext W .redo = ⟨en.2, W.past ++ [en.1], ps⟩ := by
          show (match W.und.getLast? with | none => W | some x => WSt.mk x.2 (W.past ++ [x.1]) W.und.dropLast) = _
          rw [ep, List.getLast?_concat, List.dropLast_concat]
        rw [e]
        have R7 := R1.same s27
        have k7 := tk_of s27
        exact ⟨s7 _ _ upd_same, he3.keep k7, (s4.trans (s6.trans s7)) _ _ upd_same, Paired.app R7.past (.cons (he2.keep k7) .nil), (s6.trans s7) _ _ upd_same, Paired.mapP hu' fun _ _ z => z.keep k7⟩
    | add od =>
      obtain ⟨v0, hv, hvo⟩ := id hb
      refine ⟨_, rfl, b, _, 0, _, rfl, rfl, SqT.of hv, atI_nat (j := 0) rfl, _, rfl, a, _, 2, _, rfl, rfl, SqT.of ha, atI_nat (j := 2) rfl, _, _, rfl, ?_⟩
      refine ⟨_, rfl, rfl, _, rfl, str_eqF (by decide +kernel) ⟨_, rfl, rfl, _, rfl, str_eqF (by decide +kernel) ?_⟩⟩
      refine ⟨_, rfl, _, rfl, _, rfl, a, t, b, p, h, t, W.cur, .add od, rfl, ha, hO, l20, hb, rfl, fun H1 r v t' s1 nr hr1' hg hbad => ?_⟩
      refine ⟨r, _, rfl, SqT.of hr1', rfl, _, _, rfl, _, _, rfl, _, _, rfl, rfl, ?_⟩
      cases hE : errI p W.cur (.add od) with
      | some j =>
        have je := errI_some hE
        refine ⟨_, rfl, rfl, true, congrArg V.bl (by rw [decide_eq_false (fun y => errW_ne je (V.str.inj y))]; rfl), iteT ⟨_, rfl, (by show 2 ≤ sizeLine; decide), fun x nx => ?_⟩⟩
        exact q1 j _ x hE (s1.trans (same_upd nx)) upd_same
      | none =>
        obtain ⟨g1, g2⟩ := hg hE
        refine ⟨_, rfl, rfl, false, congrArg V.bl (by rw [decide_eq_true (by rfl)]; rfl), iteF ?_⟩
        have R1 := R.same s1
        have ha1 := s1 _ _ ha
        refine ⟨_, rfl, _, rfl, a, _, 0, _, rfl, rfl, SqT.of ha1, atI_nat (j := 0) rfl, _, rfl, a, _, 1, _, rfl, rfl, SqT.of ha1, atI_nat (j := 1) rfl, _, rfl, (by show 3 ≤ sizeLine; decide), fun a2 na2 => ?_⟩
        have s2 := same_upd (o := HO.tup [.int p, .int h, .ref t']) na2
        refine ⟨_, rfl, _, rfl, _, rfl, (by show 2 ≤ sizeLine; decide), fun y ny => ?_⟩
        have s3 := same_upd (o := HO.tup [.str "add", .ref a]) ny
        refine ⟨(by show 1 ≤ sizeLine; decide), fun z nz => ?_⟩
        have s4 := same_upd (o := HO.lst [.ref y]) nz
        refine ⟨q, z, qs, _, rfl, rfl, (s2.trans (s3.trans s4)) _ _ R1.q, upd_same, Nat.le_of_lt (small1000 (by show qs.length + 1 ≤ 1000; omega)), fun c nc => ?_⟩
        have s5 := same_upd (o := HO.lst (qs ++ [.ref y])) nc
        refine ⟨(by show 0 ≤ sizeLine; decide), fun e ne => ?_⟩
        have s6 := same_upd (o := HO.lst []) ne
        refine ⟨(by show 3 ≤ sizeLine; decide), fun l2 nl2 => ?_⟩
        have s7 := same_upd (o := HO.lst [.ref a2, .ref c, .ref e]) nl2
        refine ⟨(by show 3 ≤ sizeLine; decide), fun x nx => ?_⟩
        have s8 := same_upd (o := HO.tup [.str "", v, .ref l2]) nx
        have s28 := s2.trans (s3.trans (s4.trans (s5.trans (s6.trans (s7.trans s8)))))
        have k8 := tk_of s28
        have R8 := R1.same s28
        refine q2 _ x v l2 a2 c e (qs ++ [.ref y]) [] hE (s1.trans s28) upd_same (valC_keep k8 g1) ?_ ⟨.inr ((s1.trans (s2.trans (s3.trans (s4.trans (s5.trans s6))))).free nl2), .inr ((s1.trans (s2.trans (s3.trans s4))).free nc), .inr ((s1.trans (s2.trans (s3.trans (s4.trans s5)))).free ne)⟩
        exact ⟨s8 _ _ upd_same, ⟨t', (s3.trans (s4.trans (s5.trans (s6.trans (s7.trans s8))))) _ _ upd_same, g2.keep k8⟩, (s6.trans (s7.trans s8)) _ _ upd_same, Paired.app R8.past (.cons ⟨y, a, rfl, (s4.trans (s5.trans (s6.trans (s7.trans s8)))) _ _ upd_same, R8.parts⟩ .nil), (s7.trans s8) _ _ upd_same, .nil⟩
    | cancel i =>
      have hv : H b = some (.tup [.str "cancel", .int i]) := hb
      refine ⟨_, rfl, b, _, 0, _, rfl, rfl, SqT.of hv, atI_nat (j := 0) rfl, _, rfl, a, _, 2, _, rfl, rfl, SqT.of ha, atI_nat (j := 2) rfl, _, _, rfl, ?_⟩
      refine ⟨_, rfl, rfl, _, rfl, str_eqF (by decide +kernel) ⟨_, rfl, rfl, _, rfl, str_eqF (by decide +kernel) ?_⟩⟩
      refine ⟨_, rfl, _, rfl, _, rfl, a, t, b, p, h, t, W.cur, .cancel i, rfl, ha, hO, l20, hb, rfl, fun H1 r v t' s1 nr hr1' hg hbad => ?_⟩
      refine ⟨r, _, rfl, SqT.of hr1', rfl, _, _, rfl, _, _, rfl, _, _, rfl, rfl, ?_⟩
      cases hE : errI p W.cur (.cancel i) with
      | some j =>
        have je := errI_some hE
        refine ⟨_, rfl, rfl, true, congrArg V.bl (by rw [decide_eq_false (fun y => errW_ne je (V.str.inj y))]; rfl), iteT ⟨_, rfl, (by show 2 ≤ sizeLine; decide), fun x nx => ?_⟩⟩
        exact q1 j _ x hE (s1.trans (same_upd nx)) upd_same
      | none =>
        obtain ⟨g1, g2⟩ := hg hE
        refine ⟨_, rfl, rfl, false, congrArg V.bl (by rw [decide_eq_true (by rfl)]; rfl), iteF ?_⟩
        have R1 := R.same s1
        have ha1 := s1 _ _ ha
        refine ⟨_, rfl, _, rfl, a, _, 0, _, rfl, rfl, SqT.of ha1, atI_nat (j := 0) rfl, _, rfl, a, _, 1, _, rfl, rfl, SqT.of ha1, atI_nat (j := 1) rfl, _, rfl, (by show 3 ≤ sizeLine; decide), fun a2 na2 => ?_⟩
        have s2 := same_upd (o := HO.tup [.int p, .int h, .ref t']) na2
        refine ⟨_, rfl, _, rfl, _, rfl, (by show 2 ≤ sizeLine; decide), fun y ny => ?_⟩
        have s3 := same_upd (o := HO.tup [.str "cancel", .ref a]) ny
        refine ⟨(by show 1 ≤ sizeLine; decide), fun z nz => ?_⟩
        have s4 := same_upd (o := HO.lst [.ref y]) nz
        refine ⟨q, z, qs, _, rfl, rfl, (s2.trans (s3.trans s4)) _ _ R1.q, upd_same, Nat.le_of_lt (small1000 (by show qs.length + 1 ≤ 1000; omega)), fun c nc => ?_⟩
        have s5 := same_upd (o := HO.lst (qs ++ [.ref y])) nc
        refine ⟨(by show 0 ≤ sizeLine; decide), fun e ne => ?_⟩
        have s6 := same_upd (o := HO.lst []) ne
        refine ⟨(by show 3 ≤ sizeLine; decide), fun l2 nl2 => ?_⟩
        have s7 := same_upd (o := HO.lst [.ref a2, .ref c, .ref e]) nl2
        refine ⟨(by show 3 ≤ sizeLine; decide), fun x nx => ?_⟩
        have s8 := same_upd (o := HO.tup [.str "", v, .ref l2]) nx
        have s28 := s2.trans (s3.trans (s4.trans (s5.trans (s6.trans (s7.trans s8)))))
        have k8 := tk_of s28
        have R8 := R1.same s28
        refine q2 _ x v l2 a2 c e (qs ++ [.ref y]) [] hE (s1.trans s28) upd_same (valC_keep k8 g1) ?_ ⟨.inr ((s1.trans (s2.trans (s3.trans (s4.trans (s5.trans s6))))).free nl2), .inr ((s1.trans (s2.trans (s3.trans s4))).free nc), .inr ((s1.trans (s2.trans (s3.trans (s4.trans s5)))).free ne)⟩
        exact ⟨s8 _ _ upd_same, ⟨t', (s3.trans (s4.trans (s5.trans (s6.trans (s7.trans s8))))) _ _ upd_same, g2.keep k8⟩, (s6.trans (s7.trans s8)) _ _ upd_same, Paired.app R8.past (.cons ⟨y, a, rfl, (s4.trans (s5.trans (s6.trans (s7.trans s8)))) _ _ upd_same, R8.parts⟩ .nil), (s7.trans s8) _ _ upd_same, .nil⟩
    | prolong i n =>
      have hv : H b = some (.tup [.str "prolong", .int i, .int n]) := hb
      refine ⟨_, rfl, b, _, 0, _, rfl, rfl, SqT.of hv, atI_nat (j := 0) rfl, _, rfl, a, _, 2, _, rfl, rfl, SqT.of ha, atI_nat (j := 2) rfl, _, _, rfl, ?_⟩
      refine ⟨_, rfl, rfl, _, rfl, str_eqF (by decide +kernel) ⟨_, rfl, rfl, _, rfl, str_eqF (by decide +kernel) ?_⟩⟩
      refine ⟨_, rfl, _, rfl, _, rfl, a, t, b, p, h, t, W.cur, .prolong i n, rfl, ha, hO, l20, hb, rfl, fun H1 r v t' s1 nr hr1' hg hbad => ?_⟩
      refine ⟨r, _, rfl, SqT.of hr1', rfl, _, _, rfl, _, _, rfl, _, _, rfl, rfl, ?_⟩
      cases hE : errI p W.cur (.prolong i n) with
      | some j =>
        have je := errI_some hE
        refine ⟨_, rfl, rfl, true, congrArg V.bl (by rw [decide_eq_false (fun y => errW_ne je (V.str.inj y))]; rfl), iteT ⟨_, rfl, (by show 2 ≤ sizeLine; decide), fun x nx => ?_⟩⟩
        exact q1 j _ x hE (s1.trans (same_upd nx)) upd_same
      | none =>
        obtain ⟨g1, g2⟩ := hg hE
        refine ⟨_, rfl, rfl, false, congrArg V.bl (by rw [decide_eq_true (by rfl)]; rfl), iteF ?_⟩
        have R1 := R.same s1
        have ha1 := s1 _ _ ha
        refine ⟨_, rfl, _, rfl, a, _, 0, _, rfl, rfl, SqT.of ha1, atI_nat (j := 0) rfl, _, rfl, a, _, 1, _, rfl, rfl, SqT.of ha1, atI_nat (j := 1) rfl, _, rfl, (by show 3 ≤ sizeLine; decide), fun a2 na2 => ?_⟩
        have s2 := same_upd (o := HO.tup [.int p, .int h, .ref t']) na2
        refine ⟨_, rfl, _, rfl, _, rfl, (by show 2 ≤ sizeLine; decide), fun y ny => ?_⟩
        have s3 := same_upd (o := HO.tup [.str "prolong", .ref a]) ny
        refine ⟨(by show 1 ≤ sizeLine; decide), fun z nz => ?_⟩
        have s4 := same_upd (o := HO.lst [.ref y]) nz
        refine ⟨q, z, qs, _, rfl, rfl, (s2.trans (s3.trans s4)) _ _ R1.q, upd_same, Nat.le_of_lt (small1000 (by show qs.length + 1 ≤ 1000; omega)), fun c nc => ?_⟩
        have s5 := same_upd (o := HO.lst (qs ++ [.ref y])) nc
        refine ⟨(by show 0 ≤ sizeLine; decide), fun e ne => ?_⟩
        have s6 := same_upd (o := HO.lst []) ne
        refine ⟨(by show 3 ≤ sizeLine; decide), fun l2 nl2 => ?_⟩
        have s7 := same_upd (o := HO.lst [.ref a2, .ref c, .ref e]) nl2
        refine ⟨(by show 3 ≤ sizeLine; decide), fun x nx => ?_⟩
        have s8 := same_upd (o := HO.tup [.str "", v, .ref l2]) nx
        have s28 := s2.trans (s3.trans (s4.trans (s5.trans (s6.trans (s7.trans s8)))))
        have k8 := tk_of s28
        have R8 := R1.same s28
        refine q2 _ x v l2 a2 c e (qs ++ [.ref y]) [] hE (s1.trans s28) upd_same (valC_keep k8 g1) ?_ ⟨.inr ((s1.trans (s2.trans (s3.trans (s4.trans (s5.trans s6))))).free nl2), .inr ((s1.trans (s2.trans (s3.trans s4))).free nc), .inr ((s1.trans (s2.trans (s3.trans (s4.trans s5)))).free ne)⟩
        exact ⟨s8 _ _ upd_same, ⟨t', (s3.trans (s4.trans (s5.trans (s6.trans (s7.trans s8))))) _ _ upd_same, g2.keep k8⟩, (s6.trans (s7.trans s8)) _ _ upd_same, Paired.app R8.past (.cons ⟨y, a, rfl, (s4.trans (s5.trans (s6.trans (s7.trans s8)))) _ _ upd_same, R8.parts⟩ .nil), (s7.trans s8) _ _ upd_same, .nil⟩
    | rais i =>
      have hv : H b = some (.tup [.str "raise", .int i]) := hb
      refine ⟨_, rfl, b, _, 0, _, rfl, rfl, SqT.of hv, atI_nat (j := 0) rfl, _, rfl, a, _, 2, _, rfl, rfl, SqT.of ha, atI_nat (j := 2) rfl, _, _, rfl, ?_⟩
      refine ⟨_, rfl, rfl, _, rfl, str_eqF (by decide +kernel) ⟨_, rfl, rfl, _, rfl, str_eqF (by decide +kernel) ?_⟩⟩
      refine ⟨_, rfl, _, rfl, _, rfl, a, t, b, p, h, t, W.cur, .rais i, rfl, ha, hO, l20, hb, rfl, fun H1 r v t' s1 nr hr1' hg hbad => ?_⟩
      refine ⟨r, _, rfl, SqT.of hr1', rfl, _, _, rfl, _, _, rfl, _, _, rfl, rfl, ?_⟩
      cases hE : errI p W.cur (.rais i) with
      | some j =>
        have je := errI_some hE
        refine ⟨_, rfl, rfl, true, congrArg V.bl (by rw [decide_eq_false (fun y => errW_ne je (V.str.inj y))]; rfl), iteT ⟨_, rfl, (by show 2 ≤ sizeLine; decide), fun x nx => ?_⟩⟩
        exact q1 j _ x hE (s1.trans (same_upd nx)) upd_same
      | none =>
        obtain ⟨g1, g2⟩ := hg hE
        refine ⟨_, rfl, rfl, false, congrArg V.bl (by rw [decide_eq_true (by rfl)]; rfl), iteF ?_⟩
        have R1 := R.same s1
        have ha1 := s1 _ _ ha
        refine ⟨_, rfl, _, rfl, a, _, 0, _, rfl, rfl, SqT.of ha1, atI_nat (j := 0) rfl, _, rfl, a, _, 1, _, rfl, rfl, SqT.of ha1, atI_nat (j := 1) rfl, _, rfl, (by show 3 ≤ sizeLine; decide), fun a2 na2 => ?_⟩
        have s2 := same_upd (o := HO.tup [.int p, .int h, .ref t']) na2
        refine ⟨_, rfl, _, rfl, _, rfl, (by show 2 ≤ sizeLine; decide), fun y ny => ?_⟩
        have s3 := same_upd (o := HO.tup [.str "raise", .ref a]) ny
        refine ⟨(by show 1 ≤ sizeLine; decide), fun z nz => ?_⟩
        have s4 := same_upd (o := HO.lst [.ref y]) nz
        refine ⟨q, z, qs, _, rfl, rfl, (s2.trans (s3.trans s4)) _ _ R1.q, upd_same, Nat.le_of_lt (small1000 (by show qs.length + 1 ≤ 1000; omega)), fun c nc => ?_⟩
        have s5 := same_upd (o := HO.lst (qs ++ [.ref y])) nc
        refine ⟨(by show 0 ≤ sizeLine; decide), fun e ne => ?_⟩
        have s6 := same_upd (o := HO.lst []) ne
        refine ⟨(by show 3 ≤ sizeLine; decide), fun l2 nl2 => ?_⟩
        have s7 := same_upd (o := HO.lst [.ref a2, .ref c, .ref e]) nl2
        refine ⟨(by show 3 ≤ sizeLine; decide), fun x nx => ?_⟩
        have s8 := same_upd (o := HO.tup [.str "", v, .ref l2]) nx
        have s28 := s2.trans (s3.trans (s4.trans (s5.trans (s6.trans (s7.trans s8)))))
        have k8 := tk_of s28
        have R8 := R1.same s28
        refine q2 _ x v l2 a2 c e (qs ++ [.ref y]) [] hE (s1.trans s28) upd_same (valC_keep k8 g1) ?_ ⟨.inr ((s1.trans (s2.trans (s3.trans (s4.trans (s5.trans s6))))).free nl2), .inr ((s1.trans (s2.trans (s3.trans s4))).free nc), .inr ((s1.trans (s2.trans (s3.trans (s4.trans s5)))).free ne)⟩
        exact ⟨s8 _ _ upd_same, ⟨t', (s3.trans (s4.trans (s5.trans (s6.trans (s7.trans s8))))) _ _ upd_same, g2.keep k8⟩, (s6.trans (s7.trans s8)) _ _ upd_same, Paired.app R8.past (.cons ⟨y, a, rfl, (s4.trans (s5.trans (s6.trans (s7.trans s8)))) _ _ upd_same, R8.parts⟩ .nil), (s7.trans s8) _ _ upd_same, .nil⟩
theorem ok_worked {f : Addr} {fd : FuncData} (F : Fun K "_law_worked" "_law_worked" s_l_worked f fd) (B : Blt mg) (DC : Df P w K mg base "_law_changed" 1 P_l_changed spChanged) : FnOk P w K mg base CX0 2 f fd P_l_worked spWorked :=
  (ok_workedN F B DC).imp fun vs H Q E h => by
    obtain ⟨l, b, p, h, W, a, q, u, qs, us, op, e, R, hb, l20, l1, l2, o1, o2, q1, q2⟩ := h
    exact ⟨l, b, p, h, W, a, q, u, qs, us, op, e, R, hb, l20, l1, l2, o1, o2, q1, fun H' r v l' a' q' u' qs' us' hE s hr hv hW _ => q2 H' r v l' a' q' u' qs' us' hE s hr hv hW⟩
end
abbrev s_l_stands : Stmt := top 50
abbrev N_l_stands : List Str := ["_law_office", "_law_w", "_law_entry"]
abbrev P_l_stands : List Str := ["_law_office", "_law_w"]
theorem sc_l_stands : FnScope N_l_stands P_l_stands (defScope s_l_stands) := ⟨rfl, rfl, rfl, by decide +kernel, rfl, by decide +kernel, by decide +kernel⟩
/-! ### an office stands as the law's books say -/
theorem ords_eqv2 {H : Hp} {t t' : Addr} {os : List Od} (h : OrdsTup H t os) (h' : OrdsTup H t' os) (l : os.length ≤ 20) : Eqv 2 H (.ref t) (.ref t') := by
  obtain ⟨ts, ht, hP⟩ := h
  obtain ⟨ts', ht', hP'⟩ := h'
  refine .inr (.inl ⟨t, t', ts, ts', rfl, rfl, ht, ht', by rw [hP.length]; omega, ?_⟩)
  clear l ht ht'
  induction hP generalizing ts' with
  | nil => cases hP'; exact .nil
  | cons r _ ih =>
    cases hP' with
    | cons r' t' =>
      refine .cons ?_ (ih _ t')
      obtain ⟨u, rfl, hu⟩ := r
      obtain ⟨u', rfl, hu'⟩ := r'
      exact .inr (.inl ⟨u, u', _, _, rfl, rfl, hu, hu', by show 5 ≤ 1000; decide, .cons Eqv.int (.cons Eqv.int (.cons Eqv.int (.cons Eqv.int (.cons Eqv.int .nil))))⟩)
theorem strs_eqv {H : Hp} : ∀ (ws : List Str), Paired (Eqv 1 H) (ws.map V.str) (ws.map V.str)
  | [] => .nil
  | w :: ws => .cons (Eqv.flat rfl (.inr (.inr (.inr ⟨w, rfl⟩)))) (strs_eqv ws)
def spStands (O C : Addr) : Sp := fun vs H Q _ => ∃ (o l : Addr) (p h : Nat) (S : OffS) (a q u : Addr) (qs us : List V), vs = [.ref o, .ref l] ∧ OffAt O C H o S ∧ WV p h H l S.books a q u qs us ∧ S.st.length ≤ 900 ∧ S.cur.length ≤ 20 ∧ ∀ H', Same H H' → Q (.bl true) H'
section
variable {P : Program} {w : World} {K : PySem.W.Frag} {mg : Str → Option Value} {base : Heap}
set_option maxHeartbeats 0 in
theorem ok_stands {f O C qP fP qN fN : Addr} {fd fdP fdN : FuncData} (F : Fun K "_law_stands" "_law_stands" s_l_stands f fd) (T : OffT K O) (DE : ∀ n, Df P w K mg base "_law_equal" (n + 2) P_l_equal (spEqual n))
    (pP : PropOf K O "present_orders" qP fP) (GP : FnOk P w K mg base CX0 1 fP fdP P_Office_present_orders (spPres O C)) (bP : Binds K fdP P_Office_present_orders [])
    (pN : PropOf K O "operations" qN fN) (GN : FnOk P w K mg base CX0 1 fN fdN P_Office_operations (spOps O C)) (bN : Binds K fdN P_Office_operations []) : FnOk P w K mg base CX0 6 f fd P_l_stands (spStands O C) := by
  obtain ⟨fE, fdE, gE, kE, bE, GE⟩ := DE 3
  refine F.ok sc_l_stands (fun vs H Q E h => ?_) (fun cdv A outer s H vs Q E hr h => ?_)
  · obtain ⟨o, l, p, h, S, a, q, u, qs, us, rfl, _⟩ := h
    rfl
  · obtain ⟨o, l, p, h, S, a, q, u, qs, us, rfl, A0, R, l9, l20, q0⟩ := h
    have hr2 : Room 2 _ := hr.mono (by decide)
    refine ⟨_, (pss_one (ps_ret (pe_call GE hr (by rfl) gE kE bE .nil pass0 (pa_cons (pe_lst (pa_cons (pe_prop (pv 0) T.cl pP GP hr2 bP .nil pass0 rfl) (pa_cons (pe_prop (pv 0) T.cl pN GN hr2 bN .nil pass0 rfl) pa_nil))) (pa_cons (pe_lst (pa_cons (pe_ix ix_tup (pe_ix ix_list (pv 1) pe_int (fun _ _ => rfl)) pe_int (fun _ _ => rfl)) (pa_cons (pe_lc (own := [("_law_entry", 2)]) (g := gName 2) (tt := tYes) (te := tOp (rIxT K) (tVar 2) (tC (.int 0))) (by rfl) sc_l_stands.nd
        (pi_list (pe_ix ix_list (pv 1) pe_int (fun _ _ => rfl))) (blkOk_by (N := N_l_stands) (sc := defScope s_l_stands) (by decide +kernel)) (fun _ _ _ _ _ => (pg_name (i := 2) sc_l_stands.nd rfl (.inl rfl))) (fun _ _ _ _ _ => pts_nil) (fun _ _ _ _ _ => (pe_ix ix_tup (pv 2) pe_int (fun _ _ => rfl)))) pa_nil))) pa_nil))))), ?_⟩
    obtain ⟨dx, fs, u0, vs, ho, _⟩ := id A0
    obtain ⟨t, ha, hO⟩ := id R.parts
    refine ⟨_, rfl, o, dx, fs, rfl, ho, o, S, rfl, A0, fun t1 hO1 => ?_⟩
    refine ⟨_, rfl, o, dx, fs, rfl, ho, o, S, rfl, A0, l9, fun H1 r s1 nr hr1 => ?_⟩
    refine ⟨(by show 2 ≤ sizeLine; decide), fun x nx => ?_⟩
    have s2 := same_upd (o := HO.lst [.ref t1, .ref r]) nx
    have s12 := s1.trans s2
    have R2 := R.same s12
    refine ⟨_, rfl, l, _, 0, .ref a, rfl, rfl, SqL.of R2.at_, atI_nat (j := 0) rfl, a, _, 2, .ref t, rfl, rfl, SqT.of (s12 _ _ ha), atI_nat (j := 2) rfl, ?_⟩
    refine ⟨_, rfl, l, _, 1, .ref q, rfl, rfl, SqL.of R2.at_, atI_nat (j := 1) rfl, q, rfl, ⟨_, SqL.of R2.q⟩, fun D nD => ?_⟩
    refine lc_list (K := K) (a := q) (xs := qs) (fun i H' => Same (L2.upd H1 x (.lst [.ref t1, .ref r])) H' ∧ H' D = some (.lst (((S.books.past.take i).map (·.1)).map V.str))) ⟨same_upd nD, upd_same⟩ (fun i H' _ ⟨s', _⟩ => SqL.of (s' _ _ R2.q)) ?_ ?_
    · rintro i v H3 hi ⟨s3, hD⟩
      have il : i < S.books.past.length := by rw [← R2.past.length]; exact (List.getElem?_eq_some_iff.mp hi).1
      have ez := List.getElem?_eq_getElem il
      obtain ⟨v', hv', ue, ae, e, he1, _⟩ := Paired.get? (i := i) R2.past ez
      obtain rfl : v' = v := Option.some.inj (hv'.symm.trans hi)
      subst e
      refine ⟨rfl, _, rfl, ue, _, 0, _, rfl, rfl, SqT.of (s3 _ _ he1), atI_nat (j := 0) rfl, _, hD, ?_, fun b o e => (upd_ne (ne_of_none e nD)).trans (s3 _ _ e), ?_⟩
      · rw [List.length_map, List.length_map, List.length_take]
        exact Nat.lt_of_le_of_lt (Nat.min_le_right _ _) (small1000 (by show (pastL S.os (S.st.take S.e)).length ≤ 1000; rw [pastL_len, List.length_take]; omega))
      · rw [upd_same, List.take_add_one, ez, Option.toList_some, List.map_append, List.map_append]
        rfl
    · rintro H3 ⟨s3, hD⟩
      rw [R2.past.length, List.take_length] at hD
      have hw : S.books.past.map (·.1) = (S.st.take S.e).map (·.1) := pastL_words
      rw [hw] at hD
      refine ⟨(by show 2 ≤ sizeLine; decide), fun y ny => ?_⟩
      have s4 := same_upd (o := HO.lst [.ref t, .ref D]) ny
      have s14 := s12.trans (s3.trans s4)
      refine ⟨_, _, rfl, .inr (.inr ⟨x, y, _, _, rfl, rfl, (s3.trans s4) _ _ upd_same, upd_same, by show 2 ≤ 1000; decide, .cons (ords_eqv2 (hO1.keep (tk_of s14)) (hO.keep (tk_of s14)) l20) (.cons ?_ .nil)⟩), fun H5 s5 => q0 H5 (s14.trans s5)⟩
      refine .inr (.inr ⟨r, D, _, _, rfl, rfl, (s2.trans (s3.trans s4)) _ _ hr1, s4 _ _ hD, ?_, ?_⟩)
      · rw [List.length_map, List.length_take]
        omega
      · have := strs_eqv (H := L2.upd H3 y (.lst [.ref t, .ref D])) ((S.st.take S.e).map (·.1))
        rw [List.map_map] at this
        rw [List.map_map]
        exact this
end
/-! ### a law that makes lambdas: its own def, its table, what stands when a table grows -/
open LamX (Tabs TabS ExtN TabB CodeO) in
section
variable {K : PySem.W.Frag}
structure FunC (K : PySem.W.Frag) (x qual : Str) (st : Stmt) (f : Addr) (fd : FuncData) (c : Addr) : Prop where
  ex : ∃ (oc : Value) (od : Option Addr) (kV doc pm : Value) (an : Option Addr) (ct : Value) (osl : Array (Option Value)),
    fd = PySem.W.fnOf x qual (defArgs st) (defBody st) (defScope st) .none kV doc pm an (.ref c) ct ∧ K.lookup f = some ⟨oc, od, .func fd, osl⟩ ∧ PySem.W.codeIn K (.ref c) qual = true
theorem FunC.ok {P : Program} {w : World} {mg : Str → Option Value} {base : Heap} {x qual : Str} {st : Stmt} {f c : Addr} {fd : FuncData} {N ps : List Str} {k : Nat} {sp : Sp} (F : FunC K x qual st f fd c) (S : FnScope N ps (defScope st)) (len : ∀ vs H Q E, sp vs H Q E → vs.length = ps.length)
    (hbody : ∀ (A : Around) (outer : List Env) (s : Shared) (H : Hp) (vs : List V) (Q : VK) (E : XK), Room k (A.deeper (PyProof.Rows.envOfC qual (defScope st) s.heap.objs.size f (.ref c))) → sp vs H Q E →
      ∃ t, PSs (cxOf CX0 P w K mg base N qual (defScope st) f (.ref c) A outer s H E).nox (defBody st) t ∧ t { nx := fun _ H' => Q .non H', rt := Q } (L2.start N vs) H) : FnOk P w K mg base CX0 (k + 1) f fd ps sp := by
  obtain ⟨oc, od, kV, doc, pm, an, ct, osl, rfl, lk, hcd⟩ := F.ex
  refine fn_of lk hcd S len fun A outer s H vs Q E hr hsp => ?_
  obtain ⟨t, h, q⟩ := hbody A outer s H vs Q E hr hsp
  exact ⟨t, h.nox, q⟩
/-- the law's promise where its code object's table is Pt -/
def spLawT (K : PySem.W.Frag) (Pt : Addr) : Sp := fun vs H Q _ => ∃ (a : Addr) (ns : List Int), vs = [.ref a] ∧ SqL K H a (ns.map V.int) ∧ ns.length ≤ 63 ∧ H Pt = some (.tbl #[]) ∧ ∀ H', Q (.bl true) H'
theorem codeO_lst {c : Addr} {q : Str} {xs : List V} : CodeO c q ≠ .lst xs := fun z => by
  unfold CodeO at z
  cases z
theorem codeO_ins {c C dx : Addr} {q : Str} {fs : List (Str × V)} : CodeO c q ≠ .ins C dx fs := fun z => by
  unfold CodeO at z
  cases z
theorem tabs_but {T : List (Addr × Str)} {H H' : Hp} {d : Addr} {o : HO} (t : Tabs T H) (b : But d H H') (hd : H d = some o) (n1 : ∀ ps, o ≠ .tbl ps) (n2 : ∀ c q, o ≠ CodeO c q) : Tabs T H' := fun p hp => by
  obtain ⟨ps, h1, h2, h3⟩ := t p hp
  refine ⟨ps, b _ _ (fun z => ?_) h1, h2, fun pos cv hc => ?_⟩
  · rw [z, hd] at h1
    exact n1 _ (Option.some.inj h1)
  · obtain ⟨c, e, h4⟩ := h3 pos cv hc
    refine ⟨c, e, b _ _ (fun z => ?_) h4⟩
    rw [z, hd] at h4
    exact n2 _ _ (Option.some.inj h4)
theorem tabs_butL {T : List (Addr × Str)} {H H' : Hp} {d : Addr} {xs : List V} (t : Tabs T H) (b : But d H H') (hd : H d = some (.lst xs)) : Tabs T H' := tabs_but t b hd (fun ps z => by cases z) fun c q z => codeO_lst z.symm
theorem tabs_butD {T : List (Addr × Str)} {H H' : Hp} {d : Addr} (t : Tabs T H) (b : But d H H') (D : DAt H d) : Tabs T H' := by
  obtain ⟨_, _, _, _, _, hd⟩ := D
  exact tabs_butL t b hd
theorem tabs_butI {T : List (Addr × Str)} {H H' : Hp} {s C dx : Addr} {fs : List (Str × V)} (t : Tabs T H) (b : But s H H') (hi : H s = some (.ins C dx fs)) : Tabs T H' := tabs_but t b hi (fun ps z => by cases z) fun c q z => codeO_ins z.symm
section
variable {H H' : Hp}
theorem ExtN.tk (e : ExtN H H') : TupKeep H H' := fun _ _ h => e _ _ h fun ps z => by cases z
theorem ExtN.lst (e : ExtN H H') {b : Addr} {xs : List V} (h : H b = some (.lst xs)) : H' b = some (.lst xs) := e _ _ h fun ps z => by cases z
theorem ExtN.ins (e : ExtN H H') {b C dx : Addr} {fs : List (Str × V)} (h : H b = some (.ins C dx fs)) : H' b = some (.ins C dx fs) := e _ _ h fun ps z => by cases z
theorem ExtN.dT (e : ExtN H H') {b : Addr} {kvs : List (List L2.Key × V)} (h : H b = some (.dT kvs)) : H' b = some (.dT kvs) := e _ _ h fun ps z => by cases z
theorem DAt.extN {d : Addr} (D : DAt H d) (e : ExtN H H') : DAt H' d := by
  obtain ⟨a, b, c, h1, h2, h3⟩ := D
  exact ⟨a, b, c, h1, h2, ExtN.lst e h3⟩
theorem NetAt.extN {C : Addr} {x : Addr} {p h : Nat} {os : List Od} {t : Addr} {F : List Addr} (N : NetAt C H x p h os t F) (e : ExtN H H') : NetAt C H' x p h os t F := by
  obtain ⟨dx, fl, as, rfl, h1, h2, h3, h4, h5⟩ := N
  exact ⟨dx, fl, as, rfl, ExtN.ins e h1, h2.keep (ExtN.tk e), ExtN.lst e h3, h4, fun i a hi => ExtN.lst e (h5 i a hi)⟩
theorem tabs_same {T : List (Addr × Str)} (t : Tabs T H) (s : Same H H') : Tabs T H' := LamX.Tabs.ext t fun b o e => s b o e
end
end
abbrev s_l_error_of : Stmt := top 49
abbrev N_l_error_of : List Str := ["_law_call", "e", "_law_kinds", "_law_names", "_law_name"]
abbrev P_l_error_of : List Str := ["_law_call"]
theorem sc_l_error_of : FnScope N_l_error_of P_l_error_of (defScope s_l_error_of) := ⟨rfl, rfl, rfl, by decide +kernel, rfl, by decide +kernel, by decide +kernel⟩
/-! ### the law's helper: which error a call raises -/
def eNames : List Str := ["day", "house", "number", "limit", "order", "many", "long", "result", "contradiction", "name", "unknown", "net", "text", "code", "operation"]
def eName (i : Nat) : Str := eNames.getD i "day"
/-- the classes of errors, by the names that the law's helper asks for -/
structure ErrM (mg : Str → Option Value) (CP : Addr) (c : Nat → Addr) : Prop where
  gp : mg "PostError" = some (.ref CP)
  g0 : mg "InvalidDay" = some (.ref (c 0))
  g1 : mg "UnknownHouse" = some (.ref (c 1))
  g2 : mg "UnknownOrder" = some (.ref (c 2))
  g3 : mg "InvalidLimit" = some (.ref (c 3))
  g4 : mg "InvalidOrder" = some (.ref (c 4))
  g5 : mg "TooManyOrders" = some (.ref (c 5))
  g6 : mg "TooLong" = some (.ref (c 6))
  g7 : mg "InvalidResult" = some (.ref (c 7))
  g8 : mg "Contradiction" = some (.ref (c 8))
  g9 : mg "InvalidName" = some (.ref (c 9))
  g10 : mg "UnknownName" = some (.ref (c 10))
  g11 : mg "InvalidNet" = some (.ref (c 11))
  g12 : mg "TextFault" = some (.ref (c 12))
  g13 : mg "InvalidCode" = some (.ref (c 13))
  g14 : mg "InvalidOperation" = some (.ref (c 14))
  gv : mg "ValueError" = none
/-- D is the i-th of these classes -/
structure Err15 (K : PySem.W.Frag) (CP : Addr) (c : Nat → Addr) (D : Addr) (i : Nat) : Prop where
  lt : i < 15
  cl : ExcC K D
  ex : PySem.W.exmOne K (.ref D) (.ref CP) = some true
  is : ∀ j, j < 15 → PySem.W.kitOne K (.ref D) (.ref (c j)) = some (decide (j = i))
  ve : PySem.W.kitOne K (.ref D) (.type "ValueError") = some true
def kindsL (i : Nat) : List V := (List.range 15).map fun j => V.bl (decide (j = i))
theorem kinds_count (i : Nat) (h : i < 15) : ((List.range 15).map fun j => PyData.bool (decide (j = i))).countP (fun z => PyData.eqv z (.bool true)) = 1 := by
  rw [List.countP_map]
  have e : ((fun z => PyData.eqv z (.bool true)) ∘ fun j => PyData.bool (decide (j = i))) = fun j => decide (j = i) := by
    funext j
    show PyData.eqv (.bool (decide (j = i))) (.bool true) = decide (j = i)
    cases decide (j = i) <;> simp [PyData.eqv]
  rw [e]
  have : ∀ i, i < 15 → (List.range 15).countP (fun j => decide (j = i)) = 1 := by decide +kernel
  exact this i h
section
variable {K : PySem.W.Frag} {H : Hp}
theorem kinds_dp (i : Nat) : DpAll K H (kindsL i) ((List.range 15).map fun j => PyData.bool (decide (j = i))) := by
  unfold kindsL
  generalize List.range 15 = l
  induction l with
  | nil => exact .nil
  | cons j r ih => exact .cons (.bl _) ih
end
theorem kinds_plain (i : Nat) : PyData.plainAll ((List.range 15).map fun j => PyData.bool (decide (j = i))) = true := by
  generalize List.range 15 = l
  induction l with
  | nil => rfl
  | cons j r ih => simp [PyData.plainAll, PyData.plain, ih]
theorem kinds_at {i j : Nat} (h : j < 15) : (kindsL i)[j]? = some (V.bl (decide (j = i))) := by
  unfold kindsL
  rw [List.getElem?_map, List.getElem?_range h]
  rfl
theorem kinds_flat (i : Nat) : (kindsL i).all flatV = true := by
  rw [List.all_eq_true]
  intro v hv
  obtain ⟨j, _, rfl⟩ := List.mem_map.mp hv
  rfl
theorem eName_plain : ∀ i, i < 11 → eName i ≠ "net" ∧ eName i ≠ "text" ∧ eName i ≠ "code" ∧ eName i ≠ "operation" := by decide +kernel
theorem eName_at {i : Nat} (h : i < 15) : (eNames.map V.str)[i]? = some (V.str (eName i)) := by
  have hl : i < eNames.length := h
  unfold eName
  rw [List.getElem?_map, List.getElem?_eq_getElem hl]
  simp [List.getD, List.getElem?_eq_getElem hl]
section
variable {X : Cx}
theorem pe_never {e : Expr} : PE X e (fun _ _ _ => False) := ⟨fun _ _ _ _ _ _ h => h.elim⟩
end
section
open LamX
variable {X : Cx} {C : Addr}
/-- what the helper makes of a call that raises one of the plain errors, or none -/
def TTerr (K : PySem.W.Frag) (CP : Addr) (c : Nat → Addr) : (XK → Hp → VK → Prop) → Hp → VK → Prop := fun tl H Q =>
  tl (fun cls d H' => ∃ D i, cls = .ref D ∧ d = none ∧ Err15 K CP c D i ∧ i < 11 ∧ ∀ u H'', Same H' H'' → H'' u = some (.tup [.str (eName i), .int 0]) → Q (.ref u) H'') H fun _ H' => Q .non H'
set_option maxHeartbeats 0 in
theorem err_core {g CP : Addr} {cdg : Value} {c : Nat → Addr} {k : Nat} (M : ErrM X.mg CP c) (B : Blt X.mg) (hr : Room (k + 2) X.A) {f : Addr} {s : Shared} {H : Hp} {Q : VK} {tl : XK → Hp → VK → Prop}
    (act : ∀ (W : WX) (pn : List (Addr × Obj)) (xe : Value → Shared → Prop) (E : XK) (p1 p2 : Pos), L2.Takes ((cxOf C8.CX0 X.prog X.w X.K X.mg X.base N_l_error_of "_law_error_of" (defScope s_l_error_of) g cdg X.A X.stack s H C8.E0).tr pn xe) W → (∀ cls d σ' H', E cls d H' → W cls d σ' H') →
      PE ((cxOf C8.CX0 X.prog X.w X.K X.mg X.base N_l_error_of "_law_error_of" (defScope s_l_error_of) g cdg X.A X.stack s H C8.E0).tr pn xe) (.Call (.Name "_law_call" p1) [] [] p2) (fun σZ HZ Q => σZ[0]? = some (some (.ref f)) ∧ tl E HZ Q)) (h : TTerr X.K CP c tl H Q) :
    ∃ t, PSs (cxOf C8.CX0 X.prog X.w X.K X.mg X.base N_l_error_of "_law_error_of" (defScope s_l_error_of) g cdg X.A X.stack s H C8.E0).nox (defBody s_l_error_of) t ∧ t { nx := fun _ H' => Q .non H', rt := Q } (L2.start N_l_error_of [.ref f]) H := by
  have hu : (X.A.deeper (PyProof.Rows.envOfC "_law_error_of" (defScope s_l_error_of) s.heap.objs.size g cdg)).units + 65 < cLine := by
    have := (hr.deeper (PyProof.Rows.envOfC "_law_error_of" (defScope s_l_error_of) s.heap.objs.size g cdg)).un
    omega
  refine ⟨_, pss_cons (ps_try_as (X := (cxOf C8.CX0 X.prog X.w X.K X.mg X.base N_l_error_of "_law_error_of" (defScope s_l_error_of) g cdg X.A X.stack s H C8.E0).nox) (c := .ref CP) (i := 1)
      (tb := fun W D σ H => ∃ Ech : XK, (∀ cls d σ' H', Ech cls d H' → W cls d σ' H') ∧ σ[0]? = some (some (.ref f)) ∧ tl Ech H (fun _ H' => D.nx σ H'))
      (ts := fun a cls d Dn σ H => ∃ D i, cls = .ref D ∧ d = none ∧ Err15 X.K CP c D i ∧ i < 11 ∧ (∃ σ0 : L2.St, σ = σ0.set 1 (some (.ref a))) ∧ ∀ u H'', Same H H'' → H'' u = some (.tup [.str (eName i), .int 0]) → Dn.rt (.ref u) H'')
      rfl rfl sc_l_error_of.nd rfl rfl ⟨rfl, by decide, .inl M.gp⟩ L2.takes0 (fun W pn xe tk _ => ?_) (fun a oe cls d pn hz hf => ?_)) (pss_one (ps_ret pe_non)), ?_⟩
  · refine ⟨fun pins s' σ H' D I h' => ?_⟩
    obtain ⟨Ech, hW, h1, h3⟩ := h'
    refine PSs.run (pss_one (ps_expr (act W pn xe Ech _ _ tk hW))) pins s' σ H' D I ⟨h1, h3⟩
  · refine ⟨fun pins s' σ H' Dn I' h' => ?_⟩
    obtain ⟨D, i, rfl, rfl, e15, hi, ⟨σ0, rfl⟩, hq⟩ := h'
    have hlen : (σ0.set 1 (some (V.ref a))).length = 5 := I'.len
    rw [List.length_set] at hlen
    obtain ⟨y0, y1, y2, y3, y4, rfl⟩ : ∃ y0 y1 y2 y3 y4, σ0 = [y0, y1, y2, y3, y4] := by
      match σ0, hlen with
      | [y0, y1, y2, y3, y4], _ => exact ⟨_, _, _, _, _, rfl⟩
    let Z : Cx := (cxOf C8.CX0 X.prog X.w X.K X.mg X.base N_l_error_of "_law_error_of" (defScope s_l_error_of) g cdg X.A X.stack s H C8.E0).nox
    have iE := call_isE (X := Z) (a := a) (D := D) (oe := oe) (pn := pn) e15.cl hz hf
    refine PSs.run (X := Z.suite a ((a, oe) :: pn)) (pss_cons (ps_set (i := 2) sc_l_error_of.nd rfl (.inl rfl) (pe_lst (pa_cons (pe_callB iE (by rfl) B.isi PyProof.Rows.boot_isinstance (pa_cons (pv 1) (pa_cons (pe_glob (v := .ref (c 0)) (by rfl) M.g0 rfl) pa_nil))) (pa_cons (pe_callB iE (by rfl) B.isi PyProof.Rows.boot_isinstance (pa_cons (pv 1) (pa_cons (pe_glob (v := .ref (c 1)) (by rfl) M.g1 rfl) pa_nil))) (pa_cons (pe_callB iE (by rfl) B.isi PyProof.Rows.boot_isinstance (pa_cons (pv 1) (pa_cons (pe_glob (v := .ref (c 2)) (by rfl) M.g2 rfl) pa_nil))) pa_nil)))))
        (pss_cons (ps_set (i := 2) sc_l_error_of.nd rfl (.inl rfl) (pe_op op_cat (pv 2) (pe_lst (pa_cons (pe_callB iE (by rfl) B.isi PyProof.Rows.boot_isinstance (pa_cons (pv 1) (pa_cons (pe_glob (v := .ref (c 3)) (by rfl) M.g3 rfl) pa_nil))) (pa_cons (pe_callB iE (by rfl) B.isi PyProof.Rows.boot_isinstance (pa_cons (pv 1) (pa_cons (pe_glob (v := .ref (c 4)) (by rfl) M.g4 rfl) pa_nil))) (pa_cons (pe_callB iE (by rfl) B.isi PyProof.Rows.boot_isinstance (pa_cons (pv 1) (pa_cons (pe_glob (v := .ref (c 5)) (by rfl) M.g5 rfl) pa_nil))) pa_nil))))))
        (pss_cons (ps_set (i := 2) sc_l_error_of.nd rfl (.inl rfl) (pe_op op_cat (pv 2) (pe_lst (pa_cons (pe_callB iE (by rfl) B.isi PyProof.Rows.boot_isinstance (pa_cons (pv 1) (pa_cons (pe_glob (v := .ref (c 6)) (by rfl) M.g6 rfl) pa_nil))) (pa_cons (pe_callB iE (by rfl) B.isi PyProof.Rows.boot_isinstance (pa_cons (pv 1) (pa_cons (pe_glob (v := .ref (c 7)) (by rfl) M.g7 rfl) pa_nil))) (pa_cons (pe_callB iE (by rfl) B.isi PyProof.Rows.boot_isinstance (pa_cons (pv 1) (pa_cons (pe_glob (v := .ref (c 8)) (by rfl) M.g8 rfl) pa_nil))) pa_nil))))))
        (pss_cons (ps_set (i := 2) sc_l_error_of.nd rfl (.inl rfl) (pe_op op_cat (pv 2) (pe_lst (pa_cons (pe_callB iE (by rfl) B.isi PyProof.Rows.boot_isinstance (pa_cons (pv 1) (pa_cons (pe_glob (v := .ref (c 9)) (by rfl) M.g9 rfl) pa_nil))) (pa_cons (pe_callB iE (by rfl) B.isi PyProof.Rows.boot_isinstance (pa_cons (pv 1) (pa_cons (pe_glob (v := .ref (c 10)) (by rfl) M.g10 rfl) pa_nil))) (pa_cons (pe_callB iE (by rfl) B.isi PyProof.Rows.boot_isinstance (pa_cons (pv 1) (pa_cons (pe_glob (v := .ref (c 11)) (by rfl) M.g11 rfl) pa_nil))) pa_nil))))))
        (pss_cons (ps_set (i := 2) sc_l_error_of.nd rfl (.inl rfl) (pe_op op_cat (pv 2) (pe_lst (pa_cons (pe_callB iE (by rfl) B.isi PyProof.Rows.boot_isinstance (pa_cons (pv 1) (pa_cons (pe_glob (v := .ref (c 12)) (by rfl) M.g12 rfl) pa_nil))) (pa_cons (pe_callB iE (by rfl) B.isi PyProof.Rows.boot_isinstance (pa_cons (pv 1) (pa_cons (pe_glob (v := .ref (c 13)) (by rfl) M.g13 rfl) pa_nil))) (pa_cons (pe_callB iE (by rfl) B.isi PyProof.Rows.boot_isinstance (pa_cons (pv 1) (pa_cons (pe_glob (v := .ref (c 14)) (by rfl) M.g14 rfl) pa_nil))) pa_nil))))))
        (pss_cons (ps_if (PW.pt (pw_or (pt_cmpR op_ne (pe_bm PySem.F.plainAttrs_list PySem.F.slot_list_count PySem.F.type_list_count (mt_countD hu) (pv 2) (pa_cons pe_bl pa_nil)) pe_int (nomark _)) (pw_or1 (pt_not (pt_val (pe_callB iE (by rfl) B.isi PyProof.Rows.boot_isinstance (pa_cons (pv 1) (pa_cons (pe_bltn (v := .ty "ValueError") (by rfl) M.gv (by decide +kernel) rfl) pa_nil)))))))) (pss_one (ps_ret (pe_tup (pa_cons pe_str (pa_cons pe_int pa_nil))))) pss_nil)
        (pss_cons (ps_set (i := 3) sc_l_error_of.nd rfl (.inl rfl) (pe_lst (pa_cons pe_str (pa_cons pe_str (pa_cons pe_str (pa_cons pe_str (pa_cons pe_str (pa_cons pe_str (pa_cons pe_str (pa_cons pe_str (pa_cons pe_str (pa_cons pe_str pa_nil))))))))))))
        (pss_cons (ps_set (i := 4) sc_l_error_of.nd rfl (.inl rfl) (pe_ix ix_list (pe_op op_cat (pv 3) (pe_lst (pa_cons pe_str (pa_cons pe_str (pa_cons pe_str (pa_cons pe_str (pa_cons pe_str pa_nil))))))) (pe_bm PySem.F.plainAttrs_list PySem.F.slot_list_index PySem.F.type_list_index mt_index (pv 2) (pa_cons pe_bl pa_nil)) (fun _ _ => rfl)))
        (pss_cons (ps_if (pt_cmpR op_eq (pv 4) pe_str (nomark _)) (pss_one (ps_ret pe_never)) pss_nil)
        (pss_cons (ps_if (pt_cmpR op_eq (pv 4) pe_str (nomark _)) (pss_one (ps_ret pe_never)) pss_nil)
        (pss_one (ps_ret (pe_tup (pa_cons (pv 4) (pa_cons (pe_ifExp (pt_cmpR op_in_seq (pv 4) (pe_lst (pa_cons pe_str (pa_cons pe_str pa_nil))) rfl) pe_never pe_int) pa_nil))))))))))))))) pins s' _ H' Dn I' ?_
    refine ⟨_, rfl, .ref (c 0), .ref (c 0), _, rfl, (fun _ r => r), e15.is 0 (by decide), _, rfl, .ref (c 1), .ref (c 1), _, rfl, (fun _ r => r), e15.is 1 (by decide), _, rfl, .ref (c 2), .ref (c 2), _, rfl, (fun _ r => r), e15.is 2 (by decide), (by show 3 ≤ sizeLine; decide), fun l0 n0 => ?_⟩
    have hk0 : (upd H' l0 (.lst [.bl (decide (0 = i)), .bl (decide (1 = i)), .bl (decide (2 = i))])) l0 = some (.lst [.bl (decide (0 = i)), .bl (decide (1 = i)), .bl (decide (2 = i))]) := upd_same
    have sm0 := same_upd (o := HO.lst [.bl (decide (0 = i)), .bl (decide (1 = i)), .bl (decide (2 = i))]) n0
    generalize (upd H' l0 (.lst [.bl (decide (0 = i)), .bl (decide (1 = i)), .bl (decide (2 = i))])) = H0 at hk0 sm0
    refine ⟨_, rfl, _, rfl, .ref (c 3), .ref (c 3), _, rfl, (fun _ r => r), e15.is 3 (by decide), _, rfl, .ref (c 4), .ref (c 4), _, rfl, (fun _ r => r), e15.is 4 (by decide), _, rfl, .ref (c 5), .ref (c 5), _, rfl, (fun _ r => r), e15.is 5 (by decide), (by show 3 ≤ sizeLine; decide), fun b1 nb1 => ?_⟩
    obtain ⟨L1, eL1⟩ : ∃ L : List V, L = [.bl (decide (0 = i)), .bl (decide (1 = i)), .bl (decide (2 = i))] ++ [.bl (decide (3 = i)), .bl (decide (4 = i)), .bl (decide (5 = i))] := ⟨_, rfl⟩
    have sb1 := same_upd (o := HO.lst [.bl (decide (3 = i)), .bl (decide (4 = i)), .bl (decide (5 = i))]) nb1
    refine ⟨l0, b1, _, _, rfl, rfl, sb1 _ _ hk0, upd_same, (by show 3 + 3 ≤ sizeLine; decide), fun l1 n1 => ?_⟩
    rw [← eL1]
    have sm1 := sm0.trans (sb1.trans (same_upd (o := HO.lst L1) n1))
    have hk1 : (upd (upd H0 b1 (.lst [.bl (decide (3 = i)), .bl (decide (4 = i)), .bl (decide (5 = i))])) l1 (.lst L1)) l1 = some (.lst L1) := upd_same
    generalize (upd (upd H0 b1 (.lst [.bl (decide (3 = i)), .bl (decide (4 = i)), .bl (decide (5 = i))])) l1 (.lst L1)) = H1 at hk1 sm1
    refine ⟨_, rfl, _, rfl, .ref (c 6), .ref (c 6), _, rfl, (fun _ r => r), e15.is 6 (by decide), _, rfl, .ref (c 7), .ref (c 7), _, rfl, (fun _ r => r), e15.is 7 (by decide), _, rfl, .ref (c 8), .ref (c 8), _, rfl, (fun _ r => r), e15.is 8 (by decide), (by show 3 ≤ sizeLine; decide), fun b2 nb2 => ?_⟩
    obtain ⟨L2, eL2⟩ : ∃ L : List V, L = L1 ++ [.bl (decide (6 = i)), .bl (decide (7 = i)), .bl (decide (8 = i))] := ⟨_, rfl⟩
    have sb2 := same_upd (o := HO.lst [.bl (decide (6 = i)), .bl (decide (7 = i)), .bl (decide (8 = i))]) nb2
    refine ⟨l1, b2, _, _, rfl, rfl, sb2 _ _ hk1, upd_same, (by rw [eL1]; show 6 + 3 ≤ sizeLine; decide), fun l2 n2 => ?_⟩
    rw [← eL2]
    have sm2 := sm1.trans (sb2.trans (same_upd (o := HO.lst L2) n2))
    have hk2 : (upd (upd H1 b2 (.lst [.bl (decide (6 = i)), .bl (decide (7 = i)), .bl (decide (8 = i))])) l2 (.lst L2)) l2 = some (.lst L2) := upd_same
    generalize (upd (upd H1 b2 (.lst [.bl (decide (6 = i)), .bl (decide (7 = i)), .bl (decide (8 = i))])) l2 (.lst L2)) = H2 at hk2 sm2
    refine ⟨_, rfl, _, rfl, .ref (c 9), .ref (c 9), _, rfl, (fun _ r => r), e15.is 9 (by decide), _, rfl, .ref (c 10), .ref (c 10), _, rfl, (fun _ r => r), e15.is 10 (by decide), _, rfl, .ref (c 11), .ref (c 11), _, rfl, (fun _ r => r), e15.is 11 (by decide), (by show 3 ≤ sizeLine; decide), fun b3 nb3 => ?_⟩
    obtain ⟨L3, eL3⟩ : ∃ L : List V, L = L2 ++ [.bl (decide (9 = i)), .bl (decide (10 = i)), .bl (decide (11 = i))] := ⟨_, rfl⟩
    have sb3 := same_upd (o := HO.lst [.bl (decide (9 = i)), .bl (decide (10 = i)), .bl (decide (11 = i))]) nb3
    refine ⟨l2, b3, _, _, rfl, rfl, sb3 _ _ hk2, upd_same, (by rw [eL2, eL1]; show 9 + 3 ≤ sizeLine; decide), fun l3 n3 => ?_⟩
    rw [← eL3]
    have sm3 := sm2.trans (sb3.trans (same_upd (o := HO.lst L3) n3))
    have hk3 : (upd (upd H2 b3 (.lst [.bl (decide (9 = i)), .bl (decide (10 = i)), .bl (decide (11 = i))])) l3 (.lst L3)) l3 = some (.lst L3) := upd_same
    generalize (upd (upd H2 b3 (.lst [.bl (decide (9 = i)), .bl (decide (10 = i)), .bl (decide (11 = i))])) l3 (.lst L3)) = H3 at hk3 sm3
    refine ⟨_, rfl, _, rfl, .ref (c 12), .ref (c 12), _, rfl, (fun _ r => r), e15.is 12 (by decide), _, rfl, .ref (c 13), .ref (c 13), _, rfl, (fun _ r => r), e15.is 13 (by decide), _, rfl, .ref (c 14), .ref (c 14), _, rfl, (fun _ r => r), e15.is 14 (by decide), (by show 3 ≤ sizeLine; decide), fun b4 nb4 => ?_⟩
    obtain ⟨L4, eL4⟩ : ∃ L : List V, L = L3 ++ [.bl (decide (12 = i)), .bl (decide (13 = i)), .bl (decide (14 = i))] := ⟨_, rfl⟩
    have sb4 := same_upd (o := HO.lst [.bl (decide (12 = i)), .bl (decide (13 = i)), .bl (decide (14 = i))]) nb4
    refine ⟨l3, b4, _, _, rfl, rfl, sb4 _ _ hk3, upd_same, (by rw [eL3, eL2, eL1]; show 12 + 3 ≤ sizeLine; decide), fun l4 n4 => ?_⟩
    rw [← eL4]
    have sm4 := sm3.trans (sb4.trans (same_upd (o := HO.lst L4) n4))
    have hk4 : (upd (upd H3 b4 (.lst [.bl (decide (12 = i)), .bl (decide (13 = i)), .bl (decide (14 = i))])) l4 (.lst L4)) l4 = some (.lst L4) := upd_same
    generalize (upd (upd H3 b4 (.lst [.bl (decide (12 = i)), .bl (decide (13 = i)), .bl (decide (14 = i))])) l4 (.lst L4)) = H4 at hk4 sm4
    have hk : H4 l4 = some (.lst (kindsL i)) := by rw [hk4, eL4, eL3, eL2, eL1]; rfl
    clear hk4 hk3 hk2 hk1 hk0
    refine ⟨_, rfl, .inl ⟨rfl, _, SqL.of hk⟩, l4, _, .bl true, .bool true, _, rfl, rfl, SqL.of hk, kinds_dp i, .bl true, kinds_plain i, rfl, by decide, ?_⟩
    rw [kinds_count i e15.lt]
    refine ⟨rfl, _, rfl, iteF ⟨_, rfl, .ty "ValueError", .type "ValueError", _, rfl, (fun _ r => r), e15.ve, _, rfl, iteF ?_⟩⟩
    refine ⟨(by show 10 ≤ sizeLine; decide), fun m1 nm1 => ?_⟩
    have st1 := same_upd (o := HO.lst ((eNames.take 10).map V.str)) nm1
    refine ⟨_, rfl, (by show 5 ≤ sizeLine; decide), fun m2 nm2 => ?_⟩
    have st2 := same_upd (o := HO.lst ((eNames.drop 10).map V.str)) nm2
    refine ⟨m1, m2, _, _, rfl, rfl, st2 _ _ upd_same, upd_same, (by show 10 + 5 ≤ sizeLine; decide), fun m3 nm3 => ?_⟩
    have st3 := same_upd (o := HO.lst (eNames.map V.str)) nm3
    have hkm := (st1.trans (st2.trans st3)) _ _ hk
    obtain ⟨p1, p2, p3, p4⟩ := eName_plain i hi
    refine ⟨_, rfl, .inl ⟨rfl, _, SqL.of hkm⟩, l4, _, .bl true, i, .bl (decide (i = i)), rfl, rfl, SqL.of hkm, rfl, kinds_flat i, kinds_at e15.lt, by simp [eqV], fun m z hm hz2 => ?_, m3, eNames.map V.str, (i : Nat), _, rfl, rfl, SqL.of upd_same, atI_nat (eName_at e15.lt), ?_⟩
    · rw [kinds_at (by omega)] at hz2
      obtain rfl := Option.some.inj hz2
      rw [decide_eq_false (by omega)]
      rfl
    refine ⟨_, rfl, rfl, _, rfl, ?_⟩
    rw [decide_eq_false fun z => p1 (V.str.inj z)]
    refine iteF ⟨_, rfl, rfl, _, rfl, ?_⟩
    rw [decide_eq_false fun z => p2 (V.str.inj z)]
    refine iteF ⟨_, rfl, _, rfl, (by show 2 ≤ sizeLine; decide), fun m4 nm4 => ⟨m4, _, rfl, .inl (SqL.of upd_same), rfl, rfl, _, rfl, ?_⟩⟩
    have ev : inV (.str (eName i)) [.str "code", .str "operation"] = false := by
      unfold inV
      rw [List.any_cons, List.any_cons, List.any_nil]
      show ((("code" : Str) == eName i) || ((("operation" : Str) == eName i) || false)) = false
      rw [beq_eq_false_iff_ne.mpr (Ne.symm p3), beq_eq_false_iff_ne.mpr (Ne.symm p4)]
      rfl
    rw [ev]
    have st4 := same_upd (o := HO.lst [.str "code", .str "operation"]) nm4
    exact iteF ⟨(by show 2 ≤ sizeLine; decide), fun u nu => hq u _ (sm4.trans (st1.trans (st2.trans (st3.trans (st4.trans (same_upd nu)))))) upd_same⟩
  · refine ⟨fun cls d H' => ∃ D i, cls = .ref D ∧ d = none ∧ Err15 X.K CP c D i ∧ i < 11 ∧ ∀ u H'', Same H' H'' → H'' u = some (.tup [.str (eName i), .int 0]) → Q (.ref u) H'', fun cls d σ' H' hx => ?_, rfl, h⟩
    obtain ⟨D, i, rfl, rfl, e15, hi, hq⟩ := hx
    exact ⟨true, e15.ex, fun _ a _ => ⟨D, i, rfl, rfl, e15, hi, ⟨_, rfl⟩, hq⟩, fun z => by cases z⟩
theorem err_gives {q : Str} {g CP : Addr} {cdg : Value} {c : Nat → Addr} {k : Nat} (M : ErrM X.mg CP c) (B : Blt X.mg) (hr : Room (k + 2) X.A) :
    GivesTo X N_l_error_of "_law_error_of" (defScope s_l_error_of) g cdg (defBody s_l_error_of) "_law_call" q (TTerr X.K CP c) := by
  intro f c' s H Q tl act hc h
  exact err_core M B hr (tl := fun E HZ Q' => HZ c' = some (CodeO c' q) ∧ tl E HZ Q') (fun W pn xe E p1 p2 tk hW => act W pn xe E p1 p2 tk hW) ⟨hc, h⟩
end
/-! ### what the end tells of the error classes -/
section
variable {K : PySem.W.Frag}
theorem kit_mk {t c : Addr} {b : Bool} (h1 : PySem.W.isClsIn K c = true) (h2 : PySem.W.typeIn K (.ref c) = some (.type "type")) (h3 : PySem.W.subIn K (.ref t) (.ref c) = some b) (h4 : b = true ∨ t ≠ c) : PySem.W.kitOne K (.ref t) (.ref c) = some b := by
  unfold PySem.W.kitOne
  by_cases e : (Value.ref t == Value.ref c) = true
  · rw [if_pos e]
    rcases h4 with z | z
    · rw [z]
    · exact absurd (by simpa using e) z
  · rw [if_neg e]
    have e2 : ((PySem.W.clsIn K c).isSome && PySem.W.typeIn K (.ref c) == some (.type "type")) = true := by
      have h1' : (PySem.W.clsIn K c).isSome = true := h1
      rw [h1', h2] <;> rfl
    show (if ((PySem.W.clsIn K c).isSome && PySem.W.typeIn K (.ref c) == some (.type "type")) = true then PySem.W.subIn K (.ref t) (.ref c) else none) = some b
    rw [if_pos e2]
    exact h3
theorem kit_ve {t : Addr} (h : PySem.W.subIn K (.ref t) (.type "ValueError") = some true) : PySem.W.kitOne K (.ref t) (.type "ValueError") = some true := by
  unfold PySem.W.kitOne
  rw [if_neg (by simp)]
  show (if PySem.W.kitMeta "ValueError" = true then PySem.W.subIn K (.ref t) (.type "ValueError") else none) = some true
  rw [if_pos (by decide +kernel)]
  exact h
theorem exm_mk {t c : Addr} (h0 : PySem.W.subIn K (.ref c) (.type "BaseException") = some true) (h1 : PySem.W.isClsIn K c = true) (h2 : PySem.W.typeIn K (.ref c) = some (.type "type")) (h3 : PySem.W.subIn K (.ref t) (.ref c) = some true) : PySem.W.exmOne K (.ref t) (.ref c) = some true := by
  have e1 : (PySem.W.subIn K (.ref c) (.type "BaseException") == some true) = true := by rw [h0] <;> rfl
  have e2 : ((PySem.W.clsIn K c).isSome && PySem.W.typeIn K (.ref c) == some (.type "type")) = true := by
    have h1' : (PySem.W.clsIn K c).isSome = true := h1
    rw [h1', h2] <;> rfl
  show (if (PySem.W.subIn K (.ref c) (.type "BaseException") == some true) = true then (if ((PySem.W.clsIn K c).isSome && PySem.W.typeIn K (.ref c) == some (.type "type")) = true then PySem.W.subIn K (.ref t) (.ref c) else none) else none) = some true
  rw [if_pos e1, if_pos e2]
  exact h3
theorem err15_mk {CP D : Addr} {c : Nat → Addr} {i : Nat} (lt : i < 15) (cl : ExcC K D) (ex : PySem.W.exmOne K (.ref D) (.ref CP) = some true) (ve : PySem.W.subIn K (.ref D) (.type "ValueError") = some true) (self : c i = D)
    (h : ∀ j, j < 15 → PySem.W.isClsIn K (c j) = true ∧ PySem.W.typeIn K (.ref (c j)) = some (.type "type") ∧ PySem.W.subIn K (.ref D) (.ref (c j)) = some (decide (j = i))) : Err15 K CP c D i := by
  refine ⟨lt, cl, ex, fun j hj => ?_, kit_ve ve⟩
  obtain ⟨h1, h2, h3⟩ := h j hj
  refine kit_mk h1 h2 h3 ?_
  by_cases e : j = i
  · exact .inl (decide_eq_true e)
  · refine .inr fun z => ?_
    obtain ⟨_, _, g⟩ := h i lt
    rw [self, decide_eq_true rfl] at g
    rw [← z, decide_eq_false e, g] at h3
    cases h3
end
/-! ### an office and the law's books go on together -/
structure OkS (p h : Nat) (S : OffS) : Prop where
  pe : S.p = p
  he : S.h = h
  e : S.e ≤ S.st.length
  os : NetOk p h S.os
  st : ∀ s ∈ S.st, NetOk p h s.2 ∧ PyData.strOk s.1 = true
theorem OkS.cur {p h : Nat} {S : OffS} (k : OkS p h S) : NetOk p h S.cur := by
  show NetOk p h (curO S.os S.st S.e)
  unfold curO
  by_cases c : S.e = 0
  · rw [if_pos c]
    exact k.os
  · rw [if_neg c]
    have lt : S.e - 1 < S.st.length := by have := k.e; omega
    rw [List.getElem?_eq_getElem lt]
    exact (k.st _ (List.getElem_mem lt)).1
theorem OkS.step {p h : Nat} {S : OffS} {w : Str} {os : List Od} (k : OkS p h S) (ho : NetOk p h os) (hw : PyData.strOk w = true) : OkS p h (S.step w os) := by
  refine ⟨k.pe, k.he, ?_, k.os, fun s hs => ?_⟩
  · show S.e + 1 ≤ (S.st.take S.e ++ [(w, os)]).length
    rw [List.length_append, List.length_take, Nat.min_eq_left k.e]
    exact Nat.le_refl _
  · rcases List.mem_append.mp (show s ∈ S.st.take S.e ++ [(w, os)] from hs) with z | z
    · exact k.st s (List.mem_of_mem_take z)
    · rw [List.mem_singleton.mp z]
      exact ⟨ho, hw⟩
theorem setOd_ok {p h k : Nat} {os : List Od} {od : Od} (ok : NetOk p h os) (lt : k < os.length) (ho : OdOk p h od) : NetOk p h (setOd os k od) := by
  refine ⟨ok.p1, ok.p30, ok.h1, ok.h10, ?_, fun o z => ?_⟩
  · show (os.take k ++ [od] ++ os.drop (k + 1)).length ≤ 20
    have := ok.len
    rw [List.length_append, List.length_append, List.length_take, List.length_drop, List.length_singleton]
    omega
  · rcases List.mem_append.mp (show o ∈ os.take k ++ [od] ++ os.drop (k + 1) from z) with z | z
    · rcases List.mem_append.mp z with z | z
      · exact ok.ok o (List.mem_of_mem_take z)
      · rw [List.mem_singleton.mp z]
        exact ho
    · exact ok.ok o (List.mem_of_mem_drop z)
/-- an operation that the law's books allow -/
structure OpGo (p h : Nat) (S : OffS) (op : OpI) : Prop where
  ok : OpnOk S op.toN
  i1 : ∀ i, op = .cancel i ∨ op = .rais i → 0 ≤ i
  i2 : ∀ i n, op = .prolong i n → 0 ≤ i
  next : OkS p h (nextO S op.toN)
  len : (nextO S op.toN).st.length ≤ S.st.length + 1
  F : (nextO S op.toN).F = S.F
  books : (nextO S op.toN).books = wNext S.books op
theorem step_len {S : OffS} {w : Str} {os : List Od} (e : S.e ≤ S.st.length) : (S.step w os).st.length ≤ S.st.length + 1 := by
  show (S.st.take S.e ++ [(w, os)]).length ≤ _
  rw [List.length_append, List.length_take, List.length_singleton]
  omega
theorem opGo {p h : Nat} {S : OffS} {op : OpI} (k : OkS p h S) (wf : OpWf p h op) (en : errI p S.cur op = none) : OpGo p h S op := by
  have kc := k.cur
  have l20 := kc.len
  cases op with
  | add od =>
    obtain ⟨w1, w2, w3, w4, w5, w6, w7, w8⟩ := wf
    have en : (if p < od.n then some 4 else if S.cur.length = 20 then some 5 else none) = none := en
    have c1 : ¬ p < od.n := fun z => by rw [if_pos z] at en; cases en
    rw [if_neg c1] at en
    have c2 : ¬ S.cur.length = 20 := fun z => by rw [if_pos z] at en; cases en
    have od1 : OdOk p h od := ⟨w1, w2, w3, w4, w5, by omega, w7, w8⟩
    refine ⟨⟨by rw [k.pe, k.he]; exact od1, by omega⟩, fun i z => (by rcases z with z | z <;> cases z), fun i n z => (by cases z), k.step ⟨kc.p1, kc.p30, kc.h1, kc.h10, ?_, fun o z => ?_⟩ (by decide +kernel), step_len k.e, rfl, books_step k.e⟩
    · rw [List.length_append]
      show _ + 1 ≤ 20
      omega
    · rcases List.mem_append.mp z with z | z
      · exact kc.ok o z
      · rw [List.mem_singleton.mp z]
        exact od1
  | cancel i =>
    have en : (if inIx i S.cur then none else some 2) = none := en
    have c : inIx i S.cur := by
      by_cases c : inIx i S.cur
      · exact c
      · rw [if_neg c] at en; cases en
    have lt : i.toNat < S.cur.length := by have := c.1; have := c.2; omega
    exact ⟨⟨lt, l20⟩, fun j z => (by rcases z with z | z <;> cases z; exact c.1), fun i n z => (by cases z), k.step (wo_ok kc) (by decide +kernel), step_len k.e, rfl, books_step k.e⟩
  | prolong i n =>
    have en : (if inIx i S.cur then (if 1 ≤ n ∧ n ≤ p then none else some 4) else some 2) = none := en
    have c : inIx i S.cur := by
      by_cases c : inIx i S.cur
      · exact c
      · rw [if_neg c] at en; cases en
    rw [if_pos c] at en
    have cn : 1 ≤ n ∧ n ≤ p := by
      by_cases c : 1 ≤ n ∧ n ≤ p
      · exact c
      · rw [if_neg c] at en; cases en
    have lt : i.toNat < S.cur.length := by have := c.1; have := c.2; omega
    have eg := List.getElem?_eq_getElem lt
    have od0 := kc.ok _ (List.getElem_mem lt)
    have od1 : OdOk p h (proO (S.cur[i.toNat]) n) := ⟨od0.s, od0.t, od0.st, od0.f, cn.1, cn.2, od0.e1, od0.e⟩
    refine ⟨⟨_, eg, l20, by rw [k.pe, k.he]; exact od1⟩, fun j z => (by rcases z with z | z <;> cases z), fun j m z => (by cases z; exact c.1), k.step ?_ (by decide +kernel), step_len k.e, rfl, books_step k.e⟩
    rw [eg]
    exact setOd_ok kc lt od1
  | rais i =>
    have en : (if inIx i S.cur then none else some 2) = none := en
    have c : inIx i S.cur := by
      by_cases c : inIx i S.cur
      · exact c
      · rw [if_neg c] at en; cases en
    have lt : i.toNat < S.cur.length := by have := c.1; have := c.2; omega
    have eg := List.getElem?_eq_getElem lt
    refine ⟨⟨lt, l20⟩, fun j z => (by rcases z with z | z <;> cases z; exact c.1), fun i n z => (by cases z), k.step ?_ (by decide +kernel), step_len k.e, rfl, books_step k.e⟩
    rw [eg]
    have wk := wo_ok (k := i.toNat) kc
    refine ⟨kc.p1, kc.p30, kc.h1, kc.h10, ?_, fun o z => ?_⟩
    · show (wo S.cur i.toNat).length + 1 ≤ 20
      unfold wo
      rw [List.length_append, List.length_take, List.length_drop]
      omega
    · rcases List.mem_cons.mp z with z | z
      · rw [z]
        exact kc.ok _ (List.getElem_mem lt)
      · exact wk.ok o z
  | undo =>
    refine ⟨trivial, fun j z => (by rcases z with z | z <;> cases z), fun i n z => (by cases z), ⟨k.pe, k.he, Nat.le_trans (Nat.sub_le _ _) k.e, k.os, k.st⟩, Nat.le_succ _, rfl, ?_⟩
    by_cases c : S.e = 0
    · have e1 : nextO S .undo = S := by
        show { S with e := S.e - 1 } = S
        rw [show S.e - 1 = S.e by omega]
      have pn := (books_past_nil k.e).mpr c
      show (nextO S .undo).books = _
      rw [e1]
      show _ = (match S.books.past.getLast? with | none => S.books | some en => _)
      rw [pn]
      rfl
    · obtain ⟨en2, h1, h2⟩ := books_undo k.e c
      show ({ S with e := S.e - 1 } : OffS).books = (match S.books.past.getLast? with | none => S.books | some en => WSt.mk en.2 S.books.past.dropLast (S.books.und ++ [(en, S.books.cur)]))
      rw [h2, h1, List.getLast?_concat, List.dropLast_concat]
      rfl
  | redo =>
    refine ⟨trivial, fun j z => (by rcases z with z | z <;> cases z), fun i n z => (by cases z), ⟨k.pe, k.he, Nat.min_le_right _ _, k.os, k.st⟩, Nat.le_succ _, rfl, ?_⟩
    by_cases c : S.e = S.st.length
    · have e1 : nextO S .redo = S := by
        show { S with e := min (S.e + 1) S.st.length } = S
        rw [show min (S.e + 1) S.st.length = S.e by omega]
      have pn := (books_und_nil k.e).mpr c
      show (nextO S .redo).books = _
      rw [e1]
      show _ = (match S.books.und.getLast? with | none => S.books | some en => _)
      rw [pn]
      rfl
    · have lt : S.e < S.st.length := by have := k.e; omega
      obtain ⟨x2, h1, h2⟩ := books_redo lt
      show ({ S with e := min (S.e + 1) S.st.length } : OffS).books = (match S.books.und.getLast? with | none => S.books | some x => WSt.mk x.2 (S.books.past ++ [x.1]) S.books.und.dropLast)
      rw [show min (S.e + 1) S.st.length = S.e + 1 by omega, h2, h1, List.getLast?_concat, List.dropLast_concat]
theorem ord_eqv {n : Nat} {H : Hp} {v v' : V} {o : Od} (h : OrdAt H v o) (h' : OrdAt H v' o) : Eqv (n + 1) H v v' := by
  obtain ⟨u, rfl, hu⟩ := h
  obtain ⟨u', rfl, hu'⟩ := h'
  exact .inr (.inl ⟨u, u', _, _, rfl, rfl, hu, hu', by show 5 ≤ 1000; decide, .cons Eqv.int (.cons Eqv.int (.cons Eqv.int (.cons Eqv.int (.cons Eqv.int .nil))))⟩)
theorem val_eqv {H : Hp} {v v' : V} {S : OffS} {op : OpI} (he : S.e ≤ S.st.length) (h : ResO H v S op.toN) (h' : ValW H v' S.books op) : Eqv 2 H v v' := by
  cases op with
  | add od =>
    have h : v = .int S.cur.length := h
    have h' : v' = .int S.cur.length := h'
    rw [h, h']
    exact Eqv.int
  | cancel i =>
    obtain ⟨od, g1, g2⟩ := h
    obtain ⟨od', g1', g2'⟩ := h'
    cases g1.symm.trans g1'
    exact ord_eqv g2 g2'
  | prolong i n =>
    obtain ⟨od, g1, g2⟩ := h
    obtain ⟨od', g1', g2'⟩ := h'
    cases g1.symm.trans g1'
    rw [g2, g2']
    exact Eqv.int
  | rais i =>
    have h : v = .non := h
    have h' : v' = .non := h'
    rw [h, h']
    exact Eqv.non
  | undo =>
    have h : v = .bl (decide (S.e ≠ 0)) := h
    have h' : v' = .bl (decide (S.books.past ≠ [])) := h'
    rw [h, h', show decide (S.books.past ≠ []) = decide (S.e ≠ 0) from decide_eq_decide.mpr (not_congr (books_past_nil he))]
    exact Eqv.flat rfl (.inr (.inl ⟨_, rfl⟩))
  | redo =>
    have h : v = .bl (decide (S.e < S.st.length)) := h
    have h' : v' = .bl (decide (S.books.und ≠ [])) := h'
    have e : S.books.und ≠ [] ↔ S.e < S.st.length := by
      rw [Ne, books_und_nil he]
      omega
    rw [h, h', show decide (S.books.und ≠ []) = decide (S.e < S.st.length) from decide_eq_decide.mpr e]
    exact Eqv.flat rfl (.inr (.inl ⟨_, rfl⟩))
theorem books_words {p h : Nat} {S : OffS} (k : OkS p h S) : (∀ e ∈ S.books.past, PyData.strOk e.1 = true) ∧ (∀ x ∈ S.books.und, PyData.strOk x.1.1 = true) := by
  have a1 : ∀ (st : List Stp) (o : List Od), (∀ s ∈ st, PyData.strOk s.1 = true) → ∀ e ∈ pastL o st, PyData.strOk e.1 = true := fun st => by
    induction st with
    | nil => intro o _ e he; cases he
    | cons x r ih =>
      intro o hs e he
      rcases List.mem_cons.mp (show e ∈ (x.1, o) :: pastL x.2 r from he) with rfl | z
      · exact hs x List.mem_cons_self
      · exact ih x.2 (fun s z => hs s (List.mem_cons_of_mem _ z)) e z
  have a2 : ∀ (st : List Stp) (o : List Od), (∀ s ∈ st, PyData.strOk s.1 = true) → ∀ e ∈ undL o st, PyData.strOk e.1.1 = true := fun st => by
    induction st with
    | nil => intro o _ e he; cases he
    | cons x r ih =>
      intro o hs e he
      rcases List.mem_cons.mp (show e ∈ ((x.1, o), x.2) :: undL x.2 r from he) with rfl | z
      · exact hs x List.mem_cons_self
      · exact ih x.2 (fun s z => hs s (List.mem_cons_of_mem _ z)) e z
  exact ⟨a1 _ _ fun s z => (k.st s (List.mem_of_mem_take z)).2, fun x hx => a2 _ _ (fun s z => (k.st s (List.mem_of_mem_drop z)).2) x (List.mem_reverse.mp hx)⟩
theorem books_lens {S : OffS} : S.books.past.length ≤ S.st.length ∧ S.books.und.length ≤ S.st.length := by
  constructor
  · show (pastL S.os (S.st.take S.e)).length ≤ _
    rw [pastL_len, List.length_take]
    omega
  · show (undL S.cur (S.st.drop S.e)).reverse.length ≤ _
    rw [List.length_reverse, undL_len, List.length_drop]
    omega
theorem WV.butI {p h : Nat} {H H' : Hp} {o O dx l a q u : Addr} {fs : List (Str × V)} {W : WSt} {qs us : List V} (w : WV p h H l W a q u qs us) (b : But o H H') (ho : H o = some (.ins O dx fs)) : WV p h H' l W a q u qs us := by
  have k : TupKeep H H' := tk_ins b ho
  have n : ∀ {x : Addr} {xs : List V}, H x = some (.lst xs) → x ≠ o := fun e => ne_of e ho (by intro z; cases z)
  exact ⟨b _ _ (n w.at_) w.at_, w.parts.keep k, b _ _ (n w.q) w.q, Paired.mapP w.past fun _ _ z => z.keep k, b _ _ (n w.u) w.u, Paired.mapP w.und fun _ _ z => z.keep k⟩
theorem valW_keep {H H' : Hp} {v : V} {W : WSt} {op : OpI} (k : TupKeep H H') (h : ValW H v W op) : ValW H' v W op := by
  cases op with
  | add od => exact valC_keep (os := W.cur) (op := .add od) k h
  | cancel i => exact valC_keep (os := W.cur) (op := .cancel i) k h
  | prolong i n => exact valC_keep (os := W.cur) (op := .prolong i n) k h
  | rais i => exact valC_keep (os := W.cur) (op := .rais i) k h
  | undo => exact h
  | redo => exact h
/-! ### the errors as data -/
def errD2 (i : Nat) : PyData := .tuple [.str (eName i), .int 0]
theorem errD2_shaped : ∀ i, i < 15 → PySem.SeqAt.shaped (errD2 i) = true := by decide +kernel
theorem eqv_selfN {d : PyData} (h : PySem.SeqAt.shaped d = true) : (!PyData.eqv d d) = false := by rw [PySem.SeqAt.eqv_refl _ (PySem.SeqAt.canLay_of_shaped h)]; rfl
/-! ### an office, through what a lambda leaves -/
theorem OffAt.extN {O C : Addr} {H H' : Hp} {o : Addr} {S : OffS} (A : OffAt O C H o S) (e : LamX.ExtN H H') : OffAt O C H' o S := by
  obtain ⟨dx, fs, u, vs, h1, R, h2, hP, h3, N, h4⟩ := A
  exact ⟨dx, fs, u, vs, ExtN.ins e h1, R, ExtN.tk e _ _ h2, Paired.mapP hP fun _ _ z => z.keep (ExtN.tk e), h3, N.extN e, h4⟩
theorem OffAt.look {O C : Addr} {H : Hp} {o : Addr} {S : OffS} (A : OffAt O C H o S) (m : Str) (n : (!decide (m = "net") && (!decide (m = "steps") && (!decide (m = "effective") && !decide (m = "snapshots")))) = true) : ∃ dx fs, H o = some (.ins O dx fs) ∧ fs.lookup m = none := by
  simp only [Bool.and_eq_true, Bool.not_eq_true', decide_eq_false_iff_not] at n
  obtain ⟨dx, fs, _, _, ho, R, _⟩ := A
  exact ⟨dx, fs, ho, R.no m n.1 n.2.1 n.2.2.1 n.2.2.2⟩
/-! ### .. through what a lambda leaves -/
theorem WV.extN {p h : Nat} {H H' : Hp} {l a q u : Addr} {W : WSt} {qs us : List V} (w : WV p h H l W a q u qs us) (e : LamX.ExtN H H') : WV p h H' l W a q u qs us :=
  ⟨ExtN.lst e w.at_, w.parts.keep (ExtN.tk e), ExtN.lst e w.q, Paired.mapP w.past fun _ _ z => z.keep (ExtN.tk e), ExtN.lst e w.u, Paired.mapP w.und fun _ _ z => z.keep (ExtN.tk e)⟩
/-! ### a batch that fails -/
theorem sky_zc {B : Heap} {l : List Env} {a : Addr} {cls : Value} {d : Option Addr} {L : Addr} {h : Heap} (x : Sky B l a (L2N.Zn cls d) L h) : Sky B l a (Zc cls d) L h := by
  rcases x with ⟨g1, g2, g3, oe, vs, e, z, dd, v⟩ | x | ⟨g1, g2, g3, x⟩
  · exact .inl ⟨g1, g2, g3, oe, vs, e, z.zc, dd, v⟩
  · exact .inr (.inl (L2H.flyingZ_imp (fun o z => z.zc) x))
  · exact .inr (.inr ⟨g1, g2, g3, L2H.tracedZ_imp (fun o z => z.zc) x⟩)
theorem takes_n {X : Cx} {W : WX} (tk : Takes X W) : L2N.Takes X W := fun u s' ⟨a, B, sI, pins, σ, H, cls, d, e, I, nb, up, sky, na, os, ag, w⟩ => tk u s' ⟨a, B, sI, pins, σ, H, cls, d, e, I, nb, up, sky_zc sky, na, os, ag, w⟩
/-- an operation by its word and the number of its arguments -/
def SeqOp (H : Hp) (a : Addr) : Prop := ∃ (w : Str) (r : List V), H a = some (.tup (.str w :: r)) ∧ (w, ((r.length : Nat) : Int)) ∈ argsL
theorem SeqOp.keep {H H' : Hp} {a : Addr} (k : TupKeep H H') (h : SeqOp H a) : SeqOp H' a := by
  obtain ⟨w, r, h1, h2⟩ := h
  exact ⟨w, r, k _ _ h1, h2⟩
theorem OpIAt.seq {H : Hp} {a : Addr} {op : OpI} (h : OpIAt H a op) : SeqOp H a := by
  cases op with
  | add od => obtain ⟨v, hv, _⟩ := h; exact ⟨_, _, hv, by show (("add" : Str), (1 : Int)) ∈ argsL; simp [argsL]⟩
  | cancel k => exact ⟨_, _, h, by show (("cancel" : Str), (1 : Int)) ∈ argsL; simp [argsL]⟩
  | prolong k n => exact ⟨_, _, h, by show (("prolong" : Str), (2 : Int)) ∈ argsL; simp [argsL]⟩
  | rais k => exact ⟨_, _, h, by show (("raise" : Str), (1 : Int)) ∈ argsL; simp [argsL]⟩
  | undo => exact ⟨_, _, h, by show (("undo" : Str), (0 : Int)) ∈ argsL; simp [argsL]⟩
  | redo => exact ⟨_, _, h, by show (("redo" : Str), (0 : Int)) ∈ argsL; simp [argsL]⟩
def spIsOpnG : Sp := fun vs H Q _ => ∃ (a : Addr), vs = [.ref a] ∧ SeqOp H a ∧ Q (.bl true) H
def spChkOpnsG : Sp := fun vs H Q _ => ∃ (l : Addr) (xs : List V), vs = [.ref l] ∧ H l = some (.lst xs) ∧ (∀ v ∈ xs, ∃ a, v = .ref a ∧ SeqOp H a) ∧ ∀ H', Same H H' → Q .non H'
section
variable {P : Program} {w : World} {K : PySem.W.Frag} {mg : Str → Option Value} {base : Heap}
theorem ok_is_opnG {f : Addr} {fd : FuncData} (F : Fun K "is_operation" "is_operation" s_is_operation f fd) (B : Blt mg) (DA : DctA K w mg "ARGUMENTS" argsL) : FnOk P w K mg base CX0 1 f fd P_is_operation spIsOpnG := by
  obtain ⟨d, es, n, hg, D, hk⟩ := DA.ex
  refine F.ok sc_is_operation (fun vs H Q E h => ?_) (fun cdv A outer s H vs Q E hr h => ?_)
  · obtain ⟨a, rfl, _⟩ := h
    rfl
  · obtain ⟨a, rfl, ha, q⟩ := h
    refine ⟨_, pss_cons (ps_if (PW.pt (pw_or (pt_not (pt_val (pe_callB call_isi (by rfl) B.isi PyProof.Rows.boot_isinstance (pa_cons (pv 0) (pa_cons (pe_bltn (v := .ty "tuple") (by rfl) B.tuple (by decide +kernel) rfl) pa_nil)))))
        (pw_or (pt_cmpR op_eq (pe_callB call_len_seq (by rfl) B.len PySem.boot_len (pa_cons (pv 0) pa_nil)) pe_int (nomark _))
        (pw_or1 (pt_not (pt_val (pe_callB call_isi (by rfl) B.isi PyProof.Rows.boot_isinstance (pa_cons (pe_ix ix_tup (pv 0) pe_int (fun _ _ => rfl)) (pa_cons (pe_bltn (v := .ty "str") (by rfl) B.str (by decide +kernel) rfl) pa_nil))))))))) (pss_one (ps_ret pe_bl)) pss_nil)
      (pss_one (ps_ret (pe_and (pe_cmpR (op_in_kd D) (pe_ix ix_tup (pv 0) pe_int (fun _ _ => rfl)) (pe_glob (v := .ref d) rfl hg rfl) rfl)
        (pe_one (pe_cmpR op_eq (pe_op op_sub (pe_callB call_len_seq (by rfl) B.len PySem.boot_len (pa_cons (pv 0) pa_nil)) pe_int) (pe_ix ix_kdict (pe_glob (v := .ref d) rfl hg rfl) (pe_ix ix_tup (pv 0) pe_int (fun _ _ => rfl)) (fun _ _ => rfl)) (nomark _)))))), ?_⟩
    obtain ⟨wd, r, hr2, hm⟩ := ha
    obtain ⟨tk, hn⟩ := hk _ hm
    refine ⟨_, rfl, _, _, _, _, true, rfl, .ty "tuple", .base (.tup hr2), kit_ty (by decide +kernel), _, rfl, iteF ⟨_, rfl, a, _, rfl, .inr (SqT.of hr2), rfl, false, congrArg V.bl (decide_eq_false (fun z => ?_)), iteF ⟨_, rfl, a, _, 0, _, rfl, rfl, SqT.of hr2, atI_nat (j := 0) rfl, _, _, _, _, true, rfl, .ty "str", .base (.str _), kit_ty (by decide +kernel), _, rfl, iteF ?_⟩⟩⟩
    · have := V.int.inj z
      rw [List.length_cons] at this
      omega
    refine ⟨_, rfl, a, _, 0, _, rfl, rfl, SqT.of hr2, atI_nat (j := 0) rfl, _, _, rfl, rfl, hn, true, rfl, iteT ?_⟩
    refine ⟨_, rfl, a, _, rfl, .inr (SqT.of hr2), _, _, rfl, rfl, _, rfl, a, _, 0, _, rfl, rfl, SqT.of hr2, atI_nat (j := 0) rfl, d, _, .int (r.length : Nat), rfl, rfl, ⟨es, n, _, D.at_, D.lit, hn, ⟨_, rfl⟩⟩, ?_⟩
    refine ⟨rfl, ?_⟩
    have e : V.int (((V.str wd :: r).length : Nat) - 1) = V.int (r.length : Nat) := congrArg V.int (by rw [List.length_cons]; omega)
    show Q (.bl (decide (V.int (((V.str wd :: r).length : Nat) - 1) = V.int (r.length : Nat)))) H
    rw [e, decide_eq_true rfl]
    exact q
theorem ok_chk_opnsG {f : Addr} {fd : FuncData} (F : Fun K "check_operations" "check_operations" s_check_operations f fd) (B : Blt mg) (DI : Df P w K mg base "is_operation" 1 P_is_operation spIsOpnG) : FnOk P w K mg base CX0 2 f fd P_check_operations spChkOpnsG := by
  obtain ⟨fI, dI, gI, kI, bI, GI⟩ := DI
  refine F.ok sc_check_operations (fun vs H Q E h => ?_) (fun cdv A outer s H vs Q E hr h => ?_)
  · obtain ⟨l, xs, rfl, _⟩ := h
    rfl
  · obtain ⟨l, xs, rfl, hl, hP, q⟩ := h
    refine ⟨_, pss_cons (ps_if (pt_not (pt_val (pe_callB call_isi (by rfl) B.isi PyProof.Rows.boot_isinstance (pa_cons (pv 0) (pa_cons (pe_bltn (v := .ty "list") (by rfl) B.list (by decide +kernel) rfl) pa_nil))))) (pss_one ps_never) pss_nil)
      (pss_one (ps_for PassesOwn.never rfl (pi_enum (by rfl) B.enum (pa_cons (pv 0) pa_nil)) (pg_tup (by rfl) (pgs_cons (pg_name (i := 1) sc_check_operations.nd rfl (.inl rfl)) (pgs_cons (pg_name (i := 2) sc_check_operations.nd rfl (.inl rfl)) pgs_nil)))
        (pss_one (ps_if (pt_not (pt_val (pe_call GI hr (by rfl) gI kI bI .nil pass0 (pa_cons (pv 2) pa_nil)))) (pss_one ps_never) pss_nil)))), ?_⟩
    refine ⟨_, rfl, _, _, _, _, true, rfl, .ty "list", .base (.lst hl), kit_ty (by decide +kernel), _, rfl, iteF ?_⟩
    refine ⟨_, rfl, l, xs, rfl, SqL.of hl, for_enumL (K := K) (a := l) (xs := xs) (fun i σ H' => (∃ x1 x2, σ = [some (.ref l), x1, x2]) ∧ Same H H') ⟨⟨_, _, rfl⟩, .refl H⟩ (fun i σ H' ⟨_, s1⟩ => s1 _ _ hl) ?_ ?_⟩
    · rintro i x σ H1 T hi ⟨⟨x1, x2, rfl⟩, s1⟩ nT
      obtain ⟨a, rfl, ha⟩ := hP x (List.mem_of_getElem? hi)
      have s2 := same_upd (o := HO.tup [.int (i : Nat), .ref a]) nT
      refine ⟨T, _, rfl, SqT.of upd_same, rfl, _, _, rfl, _, _, rfl, rfl, _, rfl, a, rfl, ha.keep (tk_of (s1.trans s2)), _, rfl, iteF ⟨⟨_, _, rfl⟩, s1.trans s2⟩⟩
    · rintro σ H1 ⟨⟨x1, x2, rfl⟩, s1⟩
      exact q H1 s1
theorem nextAll_st : ∀ (ops : List Opn) (S : OffS), (nextAll S ops).x = S.x ∧ (nextAll S ops).sn = S.sn
  | [], _ => ⟨rfl, rfl⟩
  | op :: r, S => by
    have g : (nextO S op).x = S.x ∧ (nextO S op).sn = S.sn := by cases op <;> exact ⟨rfl, rfl⟩
    have h := nextAll_st r (nextO S op)
    exact ⟨h.1.trans g.1, h.2.trans g.2⟩
/-- operations as a law draws them -/
def OpsIAt (H : Hp) (l : Addr) (ops : List OpI) : Prop := ∃ xs, H l = some (.lst xs) ∧ Paired (fun v op => ∃ a, v = .ref a ∧ OpIAt H a op) xs ops
def toNs (ops : List OpI) : List Opn := ops.map OpI.toN
/-- an operation that an office can execute -/
def OpRun (S : OffS) (op : OpI) : Prop := OpnOk S op.toN ∧ (∀ i, op = .cancel i ∨ op = .rais i → 0 ≤ i) ∧ (∀ i n, op = .prolong i n → 0 ≤ i)
def spBatchF (O C : Addr) (cE : Nat → Addr) : Sp := fun vs H _ E => ∃ (o l : Addr) (ops : List OpI) (S : OffS) (k i : Nat) (bad : OpI), vs = [.ref o, .ref l] ∧ OffAt O C H o S ∧ OpsIAt H l ops ∧ ops.length ≤ 100 ∧ S.st.length ≤ 700 ∧
  (∀ j op, j < k → ops[j]? = some op → OpRun (nextAll S (toNs (ops.take j))) op) ∧ ops[k]? = some bad ∧ (let S2 := nextAll S (toNs (ops.take k)); NetOk S2.p S2.h S2.cur ∧ OpWf S2.p S2.h bad ∧ errI S2.p S2.cur bad = some i) ∧
  ∀ H', But o H H' → OffAt O C H' o S → E (.ref (cE i)) none H'
set_option maxHeartbeats 0 in
theorem ok_batchF {f O C fX CP : Addr} {cE : Nat → Addr} {fd fdX : FuncData} (F : Fun K "batch" "Office.batch" s_Office_batch f fd) (T : OffT K O) (DC : Df P w K mg base "check_operations" 2 P_check_operations spChkOpnsG) (gP : mg "PostError" = some (.ref CP)) (e15 : ∀ j, j = 2 ∨ j = 4 ∨ j = 5 → Err15 K CP cE (cE j) j)
    (mX : Meth K O "execute" fX) (GX : FnOk P w K mg base CX0 5 fX fdX P_Office_execute (spExec O C)) (GXN : FnOk P w K mg base (L2N.CX P w) 5 fX fdX P_Office_execute (spDoX O C cE)) (bX : Binds K fdX P_Office_execute []) : FnOk P w K mg base (L2.CX P w) 6 f fd P_Office_batch (spBatchF O C cE) := by
  obtain ⟨fC, dC, gC, kC, bC, GC⟩ := DC
  have GXB := FnOk.or (upN GX) GXN
  refine F.okX sc_Office_batch (fun vs H Q E h => ?_) (fun cdv A outer s H vs Q E hr h => ?_)
  · obtain ⟨o, l, ops, S, k, i, bad, rfl, _⟩ := h
    rfl
  · obtain ⟨o, l, ops, S, k, i, bad, rfl, A0, hops, len, l7, run, hk, ⟨nok, wf, he⟩, q⟩ := h
    have hr2 : Room 2 _ := hr.mono (by decide)
    refine ⟨_, pss_cons (ps_expr (pe_call GC hr2 (by rfl) gC kC bC .nil pass0 (pa_cons (pv 1) pa_nil)))
      (pss_cons (ps_set (i := 2) sc_Office_batch.nd rfl (.inl rfl) (pe_tup (pa_cons (pe_fld (pv 0) rfl) (pa_cons (pe_fld (pv 0) rfl) pa_nil))))
      (pss_one (ps_try_backN (tb := fun W => tRet (tLcX W (iList K (tVar 1)) (gName 3) tYes (fun E => tMeth O "execute" (fun vs H Q E => spExec O C vs H Q E ∨ spDoX O C cE vs H Q E) [] E (tVar 0) (tCons (tVar 3) tNil)) [3]))
        (ts := fun _ _ _ => tAsg (tVar 2) (gTup K 2 (gCons (gFldA K (tVar 0) "steps") (gCons (gFldA K (tVar 0) "effective") gNil)))) rfl rfl rfl ⟨rfl, by decide, .inl gP⟩ (takes_n (takes_of rfl rfl rfl rfl)) (L2H.passesAt_of rfl)
        (by exact fun W pn xe tkW _ => pss_one (ps_ret (pe_lcXN (W := W) (own := [("operation", 3)]) (g := gName 3) (tt := tYes) (te := fun E => tMeth O "execute" _ [] E (tVar 0) (tCons (tVar 3) tNil)) tkW rfl rfl (by rfl) sc_Office_batch.nd (pi_list (pv 1)) (blkOk_by (N := N_Office_batch) (sc := defScope s_Office_batch) (by decide +kernel)) (fun _ _ _ _ _ _ => (pg_name (i := 3) sc_Office_batch.nd rfl (.inl rfl))) (fun _ _ _ _ _ _ => pts_nil)
          (fun E _ _ _ _ _ _ hx => pe_meth (E := E) (pv 0) T.cl mX GXB hr bX .nil hx (pa_cons (pv 3) pa_nil)))))
        (by exact fun a oe cls d pn hz hf hot => ps_asg (pv 2) (pg_tupH hot (pgs_cons (pg_fldA (pv 0)) (pgs_cons (pg_fldA (pv 0)) pgs_nil))))))), ?_⟩
    obtain ⟨dx, fs, u, vs, ho, R, hu, hP, he0, N, no⟩ := id A0
    obtain ⟨xs, hl, hX⟩ := id hops
    have kl : k < ops.length := (List.getElem?_eq_some_iff.mp hk).1
    have je := errI_some he
    refine ⟨_, rfl, l, xs, rfl, hl, fun v hv => ?_, fun H1 s1 => ?_⟩
    · obtain ⟨n, hn, rfl⟩ := List.getElem_of_mem hv
      obtain ⟨v', hv', a, e, ha⟩ := Paired.get? (i := n) hX (List.getElem?_eq_getElem (by rw [← hX.length]; exact hn))
      rw [List.getElem?_eq_getElem hn] at hv'
      cases hv'
      exact ⟨a, e, ha.seq⟩
    have ho1 := s1 _ _ ho
    refine ⟨_, rfl, o, O, dx, fs, _, rfl, ho1, T.cl, T.nS, R.st, _, rfl, o, O, dx, fs, _, rfl, ho1, T.cl, T.nE, R.ef, (by show 2 ≤ sizeLine; decide), fun b nb => ?_⟩
    have s2 := s1.trans (same_upd (o := HO.tup [.ref u, .int S.e]) nb)
    have hb2 : (L2.upd H1 b (.tup [.ref u, .int S.e])) b = some (.tup [.ref u, .int S.e]) := upd_same
    generalize (L2.upd H1 b (.tup [.ref u, .int S.e])) = H2 at s2 hb2
    refine ⟨_, rfl, l, rfl, ⟨_, SqL.of (s2 _ _ hl)⟩, fun D nD => ?_⟩
    have ho2 := s2 _ _ ho
    have nDo : o ≠ D := ne_of_none ho2 nD
    have nDl : l ≠ D := ne_of_none (s2 _ _ hl) nD
    have nlo : l ≠ o := ne_of hl ho (by intro z; cases z)
    have nbo : b ≠ o := ne_of hb2 ho2 (by intro z; cases z)
    have nDH : H D = none := s2.free nD
    refine lc_list (K := K) (a := l) (xs := xs) (fun i H' => i ≤ k ∧ But o H2 H' ∧ OffAt O C H' o (nextAll S (toNs (ops.take i))) ∧ ∃ rs, H' D = some (.lst rs) ∧ rs.length = i) ⟨Nat.zero_le _, .of (same_upd nD), A0.same (s2.trans (same_upd nD)), [], upd_same, rfl⟩ (fun i H' _ ⟨_, b', _⟩ => SqL.of (b' _ _ nlo (s2 _ _ hl))) ?_ ?_
    · rintro n v H3 hi ⟨nk, b3, A3, rs, hD, hn⟩
      have lt : n < ops.length := by rw [← hX.length]; exact (List.getElem?_eq_some_iff.mp hi).1
      have eg := List.getElem?_eq_getElem lt
      obtain ⟨v', hv', a, rfl, ha⟩ := Paired.get? (i := n) hX eg
      obtain rfl : _ = v := Option.some.inj (hv'.symm.trans hi)
      generalize ops[n] = op at eg ha
      have hn3 := nextAll_len (toNs (ops.take n)) S
      rw [toNs, List.length_map, List.length_take, ← toNs] at hn3
      obtain ⟨dx3, fs3, u3, vs3, ho3, R3, _⟩ := id A3
      have b03 : But o H H3 := (But.of s2).trans b3
      have k03 : TupKeep H H3 := tk_ins b03 ho
      have ha3 := ha.keep k03
      refine ⟨rfl, _, rfl, o, dx3, fs3, rfl, ho3, R3.no _ (by decide +kernel) (by decide +kernel) (by decide +kernel) (by decide +kernel), _, rfl, ?_⟩
      by_cases c : n < k
      · obtain ⟨r1, r2, r3⟩ := run n op c eg
        refine .inl ⟨o, a, op.toN, _, rfl, A3, by omega, opi_n ha3 r2 r3, r1, fun H4 v b4 A4 r4 => ?_⟩
        have hD4 := b4 _ _ nDo.symm hD
        have k45 : TupKeep H4 (L2.upd H4 D (.lst (rs ++ [v]))) := TupKeep.lst hD4
        refine ⟨_, hD4, by rw [hn]; exact small1000 (by omega), c, fun z ob nz e => ?_, ?_, rs ++ [v], upd_same, by rw [List.length_append, hn]; rfl⟩
        · rw [upd_ne (ne_of_none e nD)]
          exact b4 _ _ nz (b3 _ _ nz e)
        · rw [List.take_add_one, eg, Option.toList_some, toNs, List.map_append, ← toNs, List.map_singleton, nextAll_snoc]
          refine A4.but .upd k45 nDo ?_
          rw [nextO_fix.2, nextAll_fix.2]
          exact N.new nDH
      · obtain rfl : n = k := by omega
        rw [hk] at eg
        cases eg
        refine .inr ⟨o, a, bad, _, i, rfl, A3, nok, ha3, wf, he, fun H4 s4 => ⟨true, (e15 i je).ex, fun _ x nx => ?_, fun z => by cases z⟩⟩
        have ho4 := s4 _ _ ho3
        refine ⟨_, rfl, b, _, rfl, SqT.of (s4 _ _ (b3 _ _ nbo hb2)), rfl, _, _, rfl, _, rfl, o, O, dx3, fs3, rfl, ho4, T.cl, T.nS, Nat.lt_of_le_of_lt R3.len (by decide), _, _, rfl, _, rfl, o, O, dx3, _, rfl, upd_same, T.cl, T.nE, Nat.lt_of_le_of_lt R3.setS.len (by decide), rfl, ?_⟩
        have b5 : But o H (L2.upd (L2.upd H4 o (.ins O dx3 (putF "steps" (.ref u) fs3))) o (.ins O dx3 (putF "effective" (.int S.e) (putF "steps" (.ref u) fs3)))) := (b03.trans (.of s4)).trans (But.upd.trans .upd)
        have tk := tk_ins b5 ho
        have Q3 := R3.setS (u' := u)
        have Q3 := Q3.setE (e' := S.e)
        rw [(nextAll_st _ S).1, (nextAll_st _ S).2] at Q3
        exact q _ b5 ⟨dx3, _, u, vs, upd_same, Q3, tk _ _ hu, Paired.mapP hP fun _ _ z => z.keep tk, he0, N.but b5 tk no, no⟩
    · rintro H3 ⟨nk, _⟩
      rw [hX.length] at nk
      omega
end
/-! ### snapshots of an office -/
def NameOk (s : Str) : Prop := s.length ≤ 8 ∧ Txt.isascii s = true ∧ Txt.isalpha s = true ∧ Txt.islower s = true
def spIsName : Sp := fun vs H Q _ => ∃ s : Str, vs = [.str s] ∧ NameOk s ∧ Q (.bl true) H
abbrev Snaps := Str → Option (List Stp × Nat)
structure SnAt (p h : Nat) (H : Hp) (sn : Addr) (m : Snaps) (n : Nat) : Prop where
  ex : ∃ kvs : List (Key × V), H sn = some (.dK kvs) ∧ kvs.length ≤ n ∧ ∀ nm, match m nm with
    | none => valV kvs (.inr nm) = none
    | some x => ∃ u2 uu vs, valV kvs (.inr nm) = some (.ref u2) ∧ H u2 = some (.tup [.ref uu, .int x.2]) ∧ H uu = some (.tup vs) ∧ Paired (StepV H) vs x.1 ∧ x.2 ≤ x.1.length
theorem SnAt.keep {p h n : Nat} {H H' : Hp} {sn : Addr} {m : Snaps} (q : SnAt p h H sn m n) (k : TupKeep H H') (d : ∀ o, H sn = some o → H' sn = some o) : SnAt p h H' sn m n := by
  obtain ⟨kvs, h1, h2, h3⟩ := q.ex
  refine ⟨kvs, d _ h1, h2, fun nm => ?_⟩
  have h4 := h3 nm
  cases e : m nm with
  | none =>
    rw [e] at h4
    exact h4
  | some x =>
    rw [e] at h4
    obtain ⟨u2, uu, vs, a1, a2, a3, a4, a5⟩ := h4
    exact ⟨u2, uu, vs, a1, k _ _ a2, k _ _ a3, Paired.mapP a4 fun _ _ z => z.keep k, a5⟩
def setSn (m : Snaps) (nm : Str) (x : List Stp × Nat) : Snaps := fun n => if n = nm then some x else m n
def spSave (O C : Addr) : Sp := fun vs H Q _ => ∃ (o : Addr) (nm : Str) (p h n : Nat) (S : OffS) (m : Snaps), vs = [.ref o, .str nm] ∧ NameOk nm ∧ OffAt O C H o S ∧ SnAt p h H S.sn m n ∧ n ≤ 900 ∧ S.sn ∉ S.F ∧
  ∀ H', But S.sn H H' → OffAt O C H' o S → SnAt p h H' S.sn (setSn m nm (S.st, S.e)) (n + 1) → Q .non H'
def spRestore (O C : Addr) : Sp := fun vs H Q _ => ∃ (o : Addr) (nm : Str) (p h n : Nat) (S : OffS) (m : Snaps) (x : List Stp × Nat), vs = [.ref o, .str nm] ∧ NameOk nm ∧ OffAt O C H o S ∧ SnAt p h H S.sn m n ∧ m nm = some x ∧
  ∀ H', But o H H' → OffAt O C H' o { S with st := x.1, e := x.2 } → Q .non H'
def spRestoreX (O C D : Addr) : Sp := fun vs H _ E => ∃ (o : Addr) (nm : Str) (p h n : Nat) (S : OffS) (m : Snaps), vs = [.ref o, .str nm] ∧ NameOk nm ∧ OffAt O C H o S ∧ SnAt p h H S.sn m n ∧ m nm = none ∧ E (.ref D) none H
/-! ### undo and redo as one operation of an office -/
def spStep (O C : Addr) (op : Opn) : Sp := fun vs H Q _ => ∃ (o : Addr) (S : OffS), vs = [.ref o] ∧ OffAt O C H o S ∧ ∀ H' v, But o H H' → OffAt O C H' o (nextO S op) → ResO H' v S op → Q v H'
theorem undo_step {O C : Addr} {vs : List V} {H : Hp} {Q : VK} {E : XK} (h : spStep O C .undo vs H Q E) : spUndo O C vs H Q E := by
  obtain ⟨o, S, e0, A, q⟩ := h
  refine ⟨o, S, e0, A, fun z => q H _ .refl ?_ ?_, fun z H' b A' => q H' _ b A' ?_⟩
  · have e : nextO S .undo = S := by
      show { S with e := S.e - 1 } = S
      rw [show S.e - 1 = S.e by omega]
    rw [e]
    exact A
  · show V.bl false = .bl (decide (S.e ≠ 0))
    rw [decide_eq_false (fun y => y z)]
  · show V.bl true = .bl (decide (S.e ≠ 0))
    rw [decide_eq_true z]
theorem redo_step {O C : Addr} {vs : List V} {H : Hp} {Q : VK} {E : XK} (h : spStep O C .redo vs H Q E) : spRedo O C vs H Q E := by
  obtain ⟨o, S, e0, A, q⟩ := h
  refine ⟨o, S, e0, A, fun z => q H _ .refl ?_ ?_, fun z H' b A' => q H' _ b ?_ ?_⟩
  · have e : nextO S .redo = S := by
      show { S with e := min (S.e + 1) S.st.length } = S
      rw [show min (S.e + 1) S.st.length = S.e by omega]
    rw [e]
    exact A
  · show V.bl false = .bl (decide (S.e < S.st.length))
    rw [decide_eq_false (by omega)]
  · show OffAt O C H' o { S with e := min (S.e + 1) S.st.length }
    rw [show min (S.e + 1) S.st.length = S.e + 1 by omega]
    exact A'
  · show V.bl true = .bl (decide (S.e < S.st.length))
    rw [decide_eq_true (by omega)]
/-! ### what holds at each turn of k22 -/
theorem valW_rv {H : Hp} {v : V} {S : OffS} {op : OpI} (he : S.e ≤ S.st.length) (h : ValW H v S.books op) : RvAt H v (resR S op.toN) := by
  cases op with
  | add od => exact h
  | cancel i =>
    obtain ⟨od, e, r⟩ := h
    have e : S.cur[i.toNat]? = some od := e
    show OrdAt H v ((S.cur[i.toNat]?).getD od0)
    rw [e]
    exact r
  | prolong i n =>
    obtain ⟨od, e, r⟩ := h
    have e : S.cur[i.toNat]? = some od := e
    show v = .int ((S.cur[i.toNat]?).getD od0).n
    rw [e]
    exact r
  | rais i => exact h
  | undo =>
    have h : v = .bl (decide (S.books.past ≠ [])) := h
    show v = .bl (decide (S.e ≠ 0))
    rw [h, show decide (S.books.past ≠ []) = decide (S.e ≠ 0) from decide_eq_decide.mpr (not_congr (books_past_nil he))]
  | redo =>
    have h : v = .bl (decide (S.books.und ≠ [])) := h
    have e : S.books.und ≠ [] ↔ S.e < S.st.length := by
      rw [Ne, books_und_nil he]
      omega
    show v = .bl (decide (S.e < S.st.length))
    rw [h, show decide (S.books.und ≠ []) = decide (S.e < S.st.length) from decide_eq_decide.mpr e]
theorem rv_eqv {H : Hp} {v v' : V} {r : Rv} (h : RvAt H v r) (h' : RvAt H v' r) : Eqv 2 H v v' := by
  cases r with
  | int n => cases h; cases h'; exact Eqv.int
  | non => cases h; cases h'; exact Eqv.non
  | bl b => cases h; cases h'; exact Eqv.flat rfl (.inr (.inl ⟨_, rfl⟩))
  | od o => exact ord_eqv h h'
theorem rvs_eqv {H : Hp} : ∀ {vs vs' : List V} {rs : List Rv}, Paired (RvAt H) vs rs → Paired (RvAt H) vs' rs → Paired (Eqv 2 H) vs vs'
  | _, _, _, .nil, .nil => .nil
  | _, _, _, .cons a t, .cons b u => .cons (rv_eqv a b) (rvs_eqv t u)
/-! operations as data -/
def opiD : OpI → PyData
  | .add od => .tuple [.str "add", odD od]
  | .cancel k => .tuple [.str "cancel", .int k]
  | .prolong k n => .tuple [.str "prolong", .int k, .int n]
  | .rais k => .tuple [.str "raise", .int k]
  | .undo => .tuple [.str "undo"]
  | .redo => .tuple [.str "redo"]
section
variable {K : PySem.W.Frag} {H : Hp}
theorem opi_dp {a : Addr} {op : OpI} (h : OpIAt H a op) : Dp K H (.ref a) (opiD op) := by
  cases op with
  | add od =>
    obtain ⟨v, h1, h2⟩ := h
    exact .tup (SqT.of h1) (.cons (.str _) (.cons (od_dp h2) .nil))
  | cancel k => exact .tup (SqT.of h) (.cons (.str _) (.cons (.int _) .nil))
  | prolong k n => exact .tup (SqT.of h) (.cons (.str _) (.cons (.int _) (.cons (.int _) .nil)))
  | rais k => exact .tup (SqT.of h) (.cons (.str _) (.cons (.int _) .nil))
  | undo => exact .tup (SqT.of h) (.cons (.str _) .nil)
  | redo => exact .tup (SqT.of h) (.cons (.str _) .nil)
theorem opsI_dpA : ∀ {vs : List V} {ops : List OpI}, Paired (fun v op => ∃ a, v = .ref a ∧ OpIAt H a op) vs ops → DpAll K H vs (ops.map opiD)
  | _, _, .nil => .nil
  | _, _, .cons r t => by
    obtain ⟨a, rfl, ha⟩ := r
    exact .cons (opi_dp ha) (opsI_dpA t)
theorem opsI_dp {l : Addr} {ops : List OpI} (h : OpsIAt H l ops) : Dp K H (.ref l) (.list (ops.map opiD)) := by
  obtain ⟨xs, h1, h2⟩ := h
  exact .lst (SqL.of h1) (opsI_dpA h2)
end
theorem opi_sh (op : OpI) : (opiD op).canLay0 = true ∧ (opiD op).depth ≤ 40 := by
  have k : PyData.strOk "add" = true ∧ PyData.strOk "cancel" = true ∧ PyData.strOk "prolong" = true ∧ PyData.strOk "raise" = true ∧ PyData.strOk "undo" = true ∧ PyData.strOk "redo" = true := by decide +kernel
  obtain ⟨k1, k2, k3, k4, k5, k6⟩ := k
  cases op with
  | add od =>
    have h1 := ods_lay [od]
    simp only [List.map_cons, List.map_nil, PyData.canLayAll0, Bool.and_true] at h1
    have h2 := ods_depth [od]
    simp only [List.map_cons, List.map_nil, PyData.depthAll] at h2
    exact ⟨by simp [opiD, PyData.canLay0, PyData.canLayAll0, h1, k1], by simp only [opiD, PyData.depth, PyData.depthAll]; omega⟩
  | cancel i => exact ⟨by simp [opiD, PyData.canLay0, PyData.canLayAll0, k2], by simp [opiD, PyData.depth, PyData.depthAll]⟩
  | prolong i n => exact ⟨by simp [opiD, PyData.canLay0, PyData.canLayAll0, k3], by simp [opiD, PyData.depth, PyData.depthAll]⟩
  | rais i => exact ⟨by simp [opiD, PyData.canLay0, PyData.canLayAll0, k4], by simp [opiD, PyData.depth, PyData.depthAll]⟩
  | undo => exact ⟨by simp [opiD, PyData.canLay0, PyData.canLayAll0, k5], by simp [opiD, PyData.depth, PyData.depthAll]⟩
  | redo => exact ⟨by simp [opiD, PyData.canLay0, PyData.canLayAll0, k6], by simp [opiD, PyData.depth, PyData.depthAll]⟩
theorem opsI_sh (ops : List OpI) : PySem.SeqAt.shaped (.list (ops.map opiD)) = true := shL2 fun d hd => by
  obtain ⟨r, _, rfl⟩ := List.mem_map.mp hd
  have := opi_sh r
  exact ⟨this.1, by omega⟩
theorem OpsIAt.keep {H H' : Hp} {l : Addr} {ops : List OpI} (h : OpsIAt H l ops) (k : TupKeep H H') (e : ∀ xs, H l = some (.lst xs) → H' l = some (.lst xs)) : OpsIAt H' l ops := by
  obtain ⟨xs, h1, h2⟩ := h
  refine ⟨xs, e _ h1, Paired.mapP h2 fun _ _ z => ?_⟩
  obtain ⟨a, e, ha⟩ := z
  exact ⟨a, e, ha.keep k⟩
section
open LamX (Tabs ExtN)
structure J22 (C O : Addr) (p h : Nat) (S : OffS) (d o : Addr) (T : List (Addr × Str)) (H : Hp) (l a q u : Addr) (qs us : List V) (n : Nat) : Prop where
  D : DAt H d
  A : OffAt O C H o S
  k : OkS p h S
  R : WV p h H l S.books a q u qs us
  len : S.st.length ≤ n
  dF : d ∉ S.F
  T : Tabs T H
section
variable {C O : Addr} {p h : Nat} {S : OffS} {d o : Addr} {T : List (Addr × Str)} {H H' : Hp} {l a q u : Addr} {qs us : List V} {n : Nat}
theorem J22.same (j : J22 C O p h S d o T H l a q u qs us n) (s : Same H H') : J22 C O p h S d o T H' l a q u qs us n :=
  ⟨j.D.but s, j.A.same s, j.k, j.R.same s, j.len, j.dF, tabs_same j.T s⟩
theorem J22.butD (j : J22 C O p h S d o T H l a q u qs us n) (b : But d H H') (D' : DAt H' d) : J22 C O p h S d o T H' l a q u qs us n := by
  obtain ⟨_, _, _, _, _, hd⟩ := id j.D
  obtain ⟨_, _, _, _, ho, _⟩ := id j.A
  have tk := b.tk j.D
  exact ⟨D', j.A.but b tk (ne_of ho hd (by intro z; cases z)) j.dF, j.k, j.R.but b j.D, j.len, j.dF, tabs_butD j.T b j.D⟩
theorem J22.extN (j : J22 C O p h S d o T H l a q u qs us n) (e : ExtN H H') (T' : Tabs T H') : J22 C O p h S d o T H' l a q u qs us n :=
  ⟨j.D.extN e, j.A.extN e, j.k, j.R.extN e, j.len, j.dF, T'⟩
theorem J22.off (j : J22 C O p h S d o T H l a q u qs us n) (b : But o H H') {S' : OffS} (A' : OffAt O C H' o S') (k' : OkS p h S') {l' a' q' u' : Addr} {qs' us' : List V} {n' : Nat} (R' : WV p h H l' S'.books a' q' u' qs' us') (len' : S'.st.length ≤ n') (F' : S'.F = S.F) :
    J22 C O p h S' d o T H' l' a' q' u' qs' us' n' := by
  obtain ⟨x1, x2, x3, x4, x5, hd⟩ := id j.D
  obtain ⟨_, _, _, _, ho, _⟩ := id j.A
  exact ⟨⟨x1, x2, x3, x4, x5, b _ _ (ne_of hd ho (by intro z; cases z)) hd⟩, A', k', R'.butI b ho, len', by rw [F']; exact j.dF, tabs_butI j.T b ho⟩
theorem WV.butL {p h : Nat} {W : WSt} {ol : Addr} {xs : List V} (w : WV p h H l W a q u qs us) (b : But ol H H') (ho : H ol = some (.lst xs)) (n : l ≠ ol ∧ q ≠ ol ∧ u ≠ ol) : WV p h H' l W a q u qs us := by
  have tk : TupKeep H H' := fun z ys e => b z _ (ne_of e ho (by intro z; cases z)) e
  exact ⟨b _ _ n.1 w.at_, w.parts.keep tk, b _ _ n.2.1 w.q, Paired.mapP w.past fun _ _ z => z.keep tk, b _ _ n.2.2 w.u, Paired.mapP w.und fun _ _ z => z.keep tk⟩
theorem J22.butL (j : J22 C O p h S d o T H l a q u qs us n) {ol : Addr} {xs : List V} (b : But ol H H') (ho : H ol = some (.lst xs)) (nd : ol ≠ d) (n0 : l ≠ ol ∧ q ≠ ol ∧ u ≠ ol) (oF : ol ∉ S.F) : J22 C O p h S d o T H' l a q u qs us n := by
  have tk : TupKeep H H' := fun z ys e => b z _ (ne_of e ho (by intro z; cases z)) e
  obtain ⟨x1, x2, x3, x4, x5, hd⟩ := id j.D
  obtain ⟨_, _, _, _, hoo, _⟩ := id j.A
  exact ⟨⟨x1, x2, x3, x4, x5, b _ _ nd.symm hd⟩, j.A.but b tk (ne_of hoo ho (by intro z; cases z)) oF, j.k, j.R.butL b ho n0, j.len, j.dF, tabs_butL j.T b ho⟩
end
/-- in the making of a batch: k operations go, of m that were tried; bv: the error that was found -/
structure I22 (C O : Addr) (p h : Nat) (S : OffS) (d o : Addr) (T : List (Addr × Str)) (ol : Addr) (H : Hp) (l0 a0 q0 u0 : Addr) (qs0 us0 : List V) (n : Nat) (rl l a q u : Addr) (qs us : List V) (bv : V) (ops : List OpI) (k m : Nat) : Prop where
  J : J22 C O p h S d o T H l0 a0 q0 u0 qs0 us0 n
  nd : ol ≠ d
  n0 : l0 ≠ ol ∧ q0 ≠ ol ∧ u0 ≠ ol
  oF : ol ∉ S.F
  Os : OpsIAt H ol ops
  km : k ≤ m
  ml : m ≤ ops.length
  run : ∀ j op, j < k → ops[j]? = some op → OpRun (nextAll S (toNs (ops.take j))) op
  ok : OkS p h (nextAll S (toNs (ops.take k)))
  R : WV p h H l (nextAll S (toNs (ops.take k))).books a q u qs us
  nl : l ≠ ol ∧ q ≠ ol ∧ u ≠ ol
  v : (bv = .non ∧ k = m ∧ rl ≠ ol ∧ rl ≠ d ∧ ∃ rs, H rl = some (.lst rs) ∧ Paired (RvAt H) rs (resAll S (toNs (ops.take k)))) ∨
    ∃ r i bad, bv = .ref r ∧ H r = some (.tup [.str (errW (some i)), .int 0]) ∧ ops[k]? = some bad ∧ OpWf p h bad ∧ errI p (nextAll S (toNs (ops.take k))).cur bad = some i
section
variable {C O : Addr} {p h : Nat} {S : OffS} {d o : Addr} {T : List (Addr × Str)} {ol : Addr} {H H' : Hp} {l0 a0 q0 u0 : Addr} {qs0 us0 : List V} {n : Nat} {rl l a q u : Addr} {qs us : List V} {bv : V} {ops : List OpI} {k m : Nat}
theorem I22.same (j : I22 C O p h S d o T ol H l0 a0 q0 u0 qs0 us0 n rl l a q u qs us bv ops k m) (s : Same H H') : I22 C O p h S d o T ol H' l0 a0 q0 u0 qs0 us0 n rl l a q u qs us bv ops k m := by
  refine ⟨j.J.same s, j.nd, j.n0, j.oF, j.Os.keep (tk_of s) fun _ e => s _ _ e, j.km, j.ml, j.run, j.ok, j.R.same s, j.nl, ?_⟩
  rcases j.v with ⟨e1, e2, e3, e4, rs, e5, e6⟩ | ⟨r, i, bad, e1, e2, e3⟩
  · exact .inl ⟨e1, e2, e3, e4, rs, s _ _ e5, Paired.mapP e6 fun _ _ z => z.keep (tk_of s)⟩
  · exact .inr ⟨r, i, bad, e1, s _ _ e2, e3⟩
theorem I22.butD (j : I22 C O p h S d o T ol H l0 a0 q0 u0 qs0 us0 n rl l a q u qs us bv ops k m) (b : But d H H') (D' : DAt H' d) : I22 C O p h S d o T ol H' l0 a0 q0 u0 qs0 us0 n rl l a q u qs us bv ops k m := by
  have tk := b.tk j.J.D
  refine ⟨j.J.butD b D', j.nd, j.n0, j.oF, j.Os.keep tk fun _ e => b _ _ j.nd e, j.km, j.ml, j.run, j.ok, j.R.but b j.J.D, j.nl, ?_⟩
  rcases j.v with ⟨e1, e2, e3, e4, rs, e5, e6⟩ | ⟨r, i, bad, e1, e2, e3⟩
  · exact .inl ⟨e1, e2, e3, e4, rs, b _ _ e4 e5, Paired.mapP e6 fun _ _ z => z.keep tk⟩
  · exact .inr ⟨r, i, bad, e1, tk _ _ e2, e3⟩
theorem getSnoc {ops : List OpI} {op : OpI} {j : Nat} (lt : j < ops.length) : (ops ++ [op])[j]? = ops[j]? := List.getElem?_append_left lt
theorem takeSnoc {ops : List OpI} {op : OpI} {j : Nat} (lt : j ≤ ops.length) : (ops ++ [op]).take j = ops.take j := List.take_append_of_le_length lt
/-- an operation more in the list -/
theorem I22.push (j : I22 C O p h S d o T ol H l0 a0 q0 u0 qs0 us0 n rl l a q u qs us bv ops k m) {b : Addr} {op : OpI} {xs : List V} (hb : OpIAt H b op) (hx : H ol = some (.lst xs)) : I22 C O p h S d o T ol (L2.upd H ol (.lst (xs ++ [.ref b]))) l0 a0 q0 u0 qs0 us0 n rl l a q u qs us bv (ops ++ [op]) k m := by
  have bt : But ol H (L2.upd H ol (.lst (xs ++ [.ref b]))) := .upd
  have tk : TupKeep H (L2.upd H ol (.lst (xs ++ [.ref b]))) := TupKeep.lst hx
  have kl : k ≤ ops.length := Nat.le_trans j.km j.ml
  obtain ⟨xs', h1, h2⟩ := id j.Os
  cases hx.symm.trans h1
  refine ⟨j.J.butL bt hx j.nd j.n0 j.oF, j.nd, j.n0, j.oF, ⟨_, upd_same, Paired.app (Paired.mapP h2 fun _ _ z => ?_) (.cons ⟨b, rfl, hb.keep tk⟩ .nil)⟩, j.km, by rw [List.length_append]; exact Nat.le_succ_of_le j.ml, fun i x lt e => ?_, ?_, ?_, j.nl, ?_⟩
  · obtain ⟨a, e, ha⟩ := z
    exact ⟨a, e, ha.keep tk⟩
  · rw [getSnoc (by omega)] at e
    rw [takeSnoc (by omega)]
    exact j.run i x lt e
  · rw [takeSnoc kl]
    exact j.ok
  · rw [takeSnoc kl]
    exact j.R.butL bt hx j.nl
  · rcases j.v with ⟨e1, e2, e3, e4, rs, e5, e6⟩ | ⟨r, i, bad, e1, e2, e3, e4, e5⟩
    · rw [takeSnoc kl]
      exact .inl ⟨e1, e2, e3, e4, rs, bt _ _ e3 e5, Paired.mapP e6 fun _ _ z => z.keep tk⟩
    · have lt : k < ops.length := (List.getElem?_eq_some_iff.mp e3).1
      rw [takeSnoc kl, getSnoc lt]
      exact .inr ⟨r, i, bad, e1, tk _ _ e2, e3, e4, e5⟩
theorem take_at {ops : List OpI} {op : OpI} {k : Nat} (e : ops[k]? = some op) : toNs (ops.take (k + 1)) = toNs (ops.take k) ++ [op.toN] := by
  rw [List.take_add_one, e, Option.toList_some, toNs, List.map_append]
  rfl
/-- the operation goes -/
theorem I22.go (j : I22 C O p h S d o T ol H l0 a0 q0 u0 qs0 us0 n rl l a q u qs us bv ops k k) {op : OpI} {v : V} {rs : List V} {rl' l' a' q' u' : Addr} {qs' us' : List V} (eo : ops[k]? = some op) (wf : OpWf p h op) (en : errI p (nextAll S (toNs (ops.take k))).cur op = none) (hv : ValW H v (nextAll S (toNs (ops.take k))).books op)
    (hR : Paired (RvAt H) rs (resAll S (toNs (ops.take k)))) (R' : WV p h H l' (wNext (nextAll S (toNs (ops.take k))).books op) a' q' u' qs' us') (nl' : l' ≠ ol ∧ q' ≠ ol ∧ u' ≠ ol) (hr : H rl' = some (.lst (rs ++ [v]))) (nr : rl' ≠ ol) (nd : rl' ≠ d) :
    I22 C O p h S d o T ol H l0 a0 q0 u0 qs0 us0 n rl' l' a' q' u' qs' us' .non ops (k + 1) (k + 1) := by
  have G := opGo j.ok wf en
  have lt : k < ops.length := (List.getElem?_eq_some_iff.mp eo).1
  refine ⟨j.J, j.nd, j.n0, j.oF, j.Os, Nat.le_refl _, lt, fun i x li e => ?_, ?_, ?_, nl', .inl ⟨rfl, rfl, nr, nd, _, hr, ?_⟩⟩
  · by_cases c : i < k
    · exact j.run i x c e
    · obtain rfl : i = k := by omega
      cases eo.symm.trans e
      exact ⟨G.ok, G.i1, G.i2⟩
  · rw [take_at eo, nextAll_snoc]
    exact G.next
  · rw [take_at eo, nextAll_snoc, G.books]
    exact R'
  · rw [take_at eo, resAll_app]
    exact Paired.app hR (.cons (valW_rv j.ok.e hv) .nil)
/-- the operation fails -/
theorem I22.fail (j : I22 C O p h S d o T ol H l0 a0 q0 u0 qs0 us0 n rl l a q u qs us bv ops k k) {op : OpI} {r : Addr} {i : Nat} (eo : ops[k]? = some op) (wf : OpWf p h op) (en : errI p (nextAll S (toNs (ops.take k))).cur op = some i) (hr : H r = some (.tup [.str (errW (some i)), .int 0])) :
    I22 C O p h S d o T ol H l0 a0 q0 u0 qs0 us0 n rl l a q u qs us (.ref r) ops k (k + 1) :=
  ⟨j.J, j.nd, j.n0, j.oF, j.Os, Nat.le_succ _, (List.getElem?_eq_some_iff.mp eo).1, j.run, j.ok, j.R, j.nl, .inr ⟨r, i, op, rfl, hr, eo, wf, en⟩⟩
end
theorem opsI_n {H : Hp} {l : Addr} {ops : List OpI} (h : OpsIAt H l ops) (r : ∀ op ∈ ops, (∀ i, op = .cancel i ∨ op = .rais i → 0 ≤ i) ∧ (∀ i n, op = .prolong i n → 0 ≤ i)) : OpsAt H l (toNs ops) := by
  obtain ⟨xs, h1, h2⟩ := h
  refine ⟨xs, h1, ?_⟩
  clear h1
  induction h2 with
  | nil => exact .nil
  | @cons x op xs ops e t ih =>
    obtain ⟨a, rfl, ha⟩ := e
    have := r op List.mem_cons_self
    exact .cons ⟨a, rfl, opi_n ha this.1 this.2⟩ (ih fun z hz => r z (List.mem_cons_of_mem _ hz))
theorem goAll_run {S : OffS} {ops : List OpI} (r : ∀ j op, j < ops.length → ops[j]? = some op → OpRun (nextAll S (toNs (ops.take j))) op) : ∀ k, k ≤ ops.length → GoAll S (toNs (ops.take k))
  | 0, _ => trivial
  | k + 1, lt => by
    have e := List.getElem?_eq_getElem (l := ops) (i := k) lt
    rw [take_at e]
    exact (goAll_app _ _ _).mpr ⟨goAll_run r k (Nat.le_of_succ_le lt), (r k _ lt e).1, trivial⟩
end
abbrev s_law : Stmt := top 51
abbrev N_law : List Str := ["_law_script", "_law_d", "_law_w", "_law_turn", "_law_undone", "_law_before", "_law_operations", "_law_results", "_law_bad", "_law_k", "_law_operation_here", "_law_found", "_law_again", "_law_given", "_law_office"]
abbrev P_law : List Str := ["_law_script"]
theorem sc_law : FnScope N_law P_law (defScope s_law) := ⟨rfl, rfl, rfl, by decide +kernel, rfl, by decide +kernel, by decide +kernel⟩
section
open LamX
variable {P : Program} {w : World} {K : PySem.W.Frag} {mg : Str → Option Value} {base : Heap}
set_option maxHeartbeats 0 in
theorem ok_law {f C O fO fX fU fD2 fB cL Pt CP : Addr} {cE : Nat → Addr} {fd fdO fdX fdU fdD2 fdB : FuncData} (F : FunC K "law" "law" s_law f fd cL) (TBl : TabB base mg cL Pt) (B : Blt mg) (TN : NetT K C) (TO : OffT K O)
    (FX : Fun K "_law_error_of" "_law_error_of" s_l_error_of fX fdX) (gX : mg "_law_error_of" = some (.ref fX)) (kX : PySem.W.keepIn K (.ref fX) = true) (bX : Binds K fdX P_l_error_of []) (ME : ErrM mg CP cE) (e15 : ∀ j, j = 2 ∨ j = 4 ∨ j = 5 → Err15 K CP cE (cE j) j)
    (DR : Df P w K mg base "_law_random" 2 P_l_random (spRandom K)) (DB : Df P w K mg base "_law_below" 2 P_l_below spBelow) (DN : Df P w K mg base "_law_net" 7 P_l_net (spNet C)) (DS : Df P w K mg base "_law_start" 5 P_l_start spStart) (DP : Df P w K mg base "_law_operation" 4 P_l_operation spOperation) (DW : Df P w K mg base "_law_worked" 2 P_l_worked spWorkedN)
    (DE : ∀ n, Df P w K mg base "_law_equal" (n + 2) P_l_equal (spEqual n)) (DT : Df P w K mg base "_law_stands" 6 P_l_stands (spStands O C))
    (gO : mg "Office" = some (.ref O)) (MO : Mk K O fO) (GO : FnOk P w K mg base CX0 1 fO fdO P_Office_init (spOInit O C)) (bO : Binds K fdO P_Office_init [])
    (mU : Meth K O "undo" fU) (GU : FnOk P w K mg base CX0 1 fU fdU P_Office_undo (spStep O C .undo)) (bU : Binds K fdU P_Office_undo []) (mD : Meth K O "redo" fD2) (GD2 : FnOk P w K mg base CX0 1 fD2 fdD2 P_Office_redo (spStep O C .redo)) (bD2 : Binds K fdD2 P_Office_redo [])
    (mBt : Meth K O "batch" fB) (GBt : FnOk P w K mg base CX0 6 fB fdB P_Office_batch (spBatch O C)) (GBF : FnOk P w K mg base (L2.CX P w) 6 fB fdB P_Office_batch (spBatchF O C cE)) (bBt : Binds K fdB P_Office_batch []) : FnOk P w K mg base CX0 9 f fd P_law (spLawT K Pt) := by
  obtain ⟨f1, d1, g1, k1, b1, G1⟩ := DR
  obtain ⟨fBl, dBl, gB, kB, bB, GB⟩ := DB
  obtain ⟨fNn, dNn, gN, kN, bN, GN⟩ := DN
  obtain ⟨fS, dS, gS, kS, bS5, GS⟩ := DS
  obtain ⟨fP, dP, gP, kP, bP, GP⟩ := DP
  obtain ⟨fW, dW, gW, kW, bW, GW⟩ := DW
  have DE3 := DE 3
  obtain ⟨fE, dE, gE, kE, bE, GE⟩ := DE 2
  obtain ⟨fE3, dE3, gE3, kE3, bE3, GE3⟩ := DE3
  obtain ⟨fT, dT, gT, kT, bT, GT⟩ := DT
  obtain ⟨ocX, odX, kVX, docX, pmX, anX, cdvX, ctX, oslX, rfl, lkX, hcX⟩ := FX.ex
  refine F.ok sc_law (fun vs H Q E h => ?_) (fun A outer s H vs Q E hr h => ?_)
  · obtain ⟨a, ns, rfl, _⟩ := h
    rfl
  · obtain ⟨a, ns, rfl, hS, hlen, hPt, q⟩ := h
    have hr1 : Room 1 _ := hr.mono (by decide)
    have hr2 : Room 2 _ := hr.mono (by decide)
    have hr4 : Room 4 _ := hr.mono (by decide)
    have hr5 : Room 5 _ := hr.mono (by decide)
    have hr6 : Room 6 _ := hr.mono (by decide)
    have hr7 : Room 7 _ := hr.mono (by decide)
    have hu : (A.deeper (PyProof.Rows.envOfC "law" (defScope s_law) s.heap.objs.size f (.ref cL))).units + 64 < cLine := hr.units
    refine ⟨_, (pss_cons (ps_set (i := 1) sc_law.nd rfl (.inl rfl) (pe_call G1 hr2 (by rfl) g1 k1 b1 .nil pass0 (pa_cons (pv 0) (pa_cons pe_int pa_nil))))
      (pss_cons (ps_set (i := 2) sc_law.nd rfl (.inl rfl) (pe_lst (pa_cons (pe_call GS hr5 (by rfl) gS kS bS5 .nil pass0 (pa_cons (pv 1) pa_nil)) (pa_cons (pe_lst pa_nil) (pa_cons (pe_lst pa_nil) pa_nil)))))
      (pss_cons (ps_set (i := 14) sc_law.nd rfl (.inr rfl) (pe_make MO GO hr2 (by rfl) gO bO .nil pass0 (pa_cons (pe_call GN hr7 (by rfl) gN kN bN .nil pass0 (pa_cons (pe_ix ix_list (pv 2) pe_int (fun _ _ => rfl)) pa_nil)) pa_nil)))
      (C8.pss_cut (ps_for PassesOwn.never rfl (pi_range1 rfl B.range (pa_cons pe_int pa_nil)) (pg_name (i := 3) sc_law.nd rfl (.inl rfl)) (pss_cons (ps_set (i := 4) sc_law.nd rfl (.inl rfl) (pe_call GW hr2 (by rfl) gW kW bW .nil pass0 (pa_cons (pv 2) (pa_cons (pe_tup (pa_cons pe_str pa_nil)) pa_nil))))
      (C8.pss_cut (ps_if (pt_cmpR op_eq (pe_call GB hr2 (by rfl) gB kB bB .nil pass0 (pa_cons (pv 1) (pa_cons pe_int pa_nil))) pe_int (nomark _)) (pss_cons (ps_set (i := 2) sc_law.nd rfl (.inl rfl) (pe_ix ix_tup (pv 4) pe_int (fun _ _ => rfl)))
      (pss_one (ps_if (pt_not (pt_val (pe_call GE hr4 (by rfl) gE kE bE .nil pass0 (pa_cons (pe_meth0 (pv 14) TO.cl mU GU hr1 bU .nil pass0) (pa_cons (pe_ix ix_tup (pv 4) pe_int (fun _ _ => rfl)) pa_nil))))) (pss_one (ps_ret pe_bl)) pss_nil))) pss_nil)
      (pss_cons (ps_asg (pe_tup (pa_cons (pv 2) (pa_cons (pe_lst pa_nil) (pa_cons (pe_lst pa_nil) (pa_cons pe_non pa_nil))))) (pg_tup (by rfl) (pgs_cons (pg_name (i := 5) sc_law.nd rfl (.inl rfl)) (pgs_cons (pg_name (i := 6) sc_law.nd rfl (.inl rfl)) (pgs_cons (pg_name (i := 7) sc_law.nd rfl (.inl rfl)) (pgs_cons (pg_name (i := 8) sc_law.nd rfl (.inl rfl)) pgs_nil))))))
      (C8.pss_cut (ps_for PassesOwn.never rfl (pi_range1 rfl B.range (pa_cons (pe_call GB hr2 (by rfl) gB kB bB .nil pass0 (pa_cons (pv 1) (pa_cons (pe_ix ix_list (pe_lst (pa_cons pe_int (pa_cons pe_int pa_nil))) (pe_call GB hr2 (by rfl) gB kB bB .nil pass0 (pa_cons (pv 1) (pa_cons pe_int pa_nil))) (fun _ _ => rfl)) pa_nil))) pa_nil)) (pg_name (i := 9) sc_law.nd rfl (.inl rfl)) (pss_cons (ps_set (i := 10) sc_law.nd rfl (.inl rfl) (pe_call GP hr4 (by rfl) gP kP bP .nil pass0 (pa_cons (pv 1) (pa_cons (pe_ix ix_list (pv 2) pe_int (fun _ _ => rfl)) pa_nil))))
      (pss_cons (ps_expr (pe_bm PySem.F.plainAttrs_list PySem.F.slot_list_append PySem.F.type_list_append mt_append (pv 6) (pa_cons (pv 10) pa_nil)))
      (pss_one (ps_if (pt_cmpR op_isN (pv 8) pe_non (nomark _)) (C8.pss_cut (ps_set (i := 11) sc_law.nd rfl (.inl rfl) (pe_call GW hr2 (by rfl) gW kW bW .nil pass0 (pa_cons (pv 2) (pa_cons (pv 10) pa_nil))))
      (pss_one (ps_if (pt_cmpR op_ne (pe_ix ix_tup (pv 11) pe_int (fun _ _ => rfl)) pe_str (nomark _)) (pss_one (ps_set (i := 8) sc_law.nd rfl (.inl rfl) (pv 11))) (pss_one (ps_par (by rfl) sc_law.nd (i := 7) (j := 2) rfl rfl (by decide) rfl rfl (pa_cons (pe_op op_cat (pv 7) (pe_lst (pa_cons (pe_ix ix_tup (pv 11) pe_int (fun _ _ => rfl)) pa_nil))) (pa_cons (pe_ix ix_tup (pv 11) pe_int (fun _ _ => rfl)) pa_nil)) (by rfl)))))) pss_nil)))))
      (pss_cons (ps_set (i := 13) sc_law.nd rfl (.inr rfl) (pe_callTy call_list_of (by rfl) B.list (by decide +kernel) (pa_cons (pv 6) pa_nil)))
      (C8.pss_cut (ps_if (pt_cmpR op_notN (pv 8) pe_non (nomark _)) (pss_cons (ps_set (i := 2) sc_law.nd rfl (.inl rfl) (pv 5))
      (pss_one (ps_if (pt_cmpR (op_neD hu) (pe_lamcall (T := [(Pt, _)]) (TT := TTerr K CP cE) (k := 6) (Ng := N_l_error_of) (t := fun E => tMeth O "batch" (spBatchF O C cE) [] E (tVar 14) (tCons (tVar 13) tNil)) (by rfl) gX kX lkX hcX bX sc_l_error_of rfl (.inl rfl) (err_gives ME B hr) TBl rfl List.mem_cons_self (fun p hp _ => by rw [List.mem_singleton.mp hp]) hr (LamX.lamS_by (by show LamX.lamSB (defScope s_law) _ = true; decide +kernel)) rfl (fun _ _ _ _ _ => rfl)
        (fun A outer s H E f c' hr' => pe_meth (E := E) (pv 14) TO.cl mBt GBF hr' bBt .nil (passes_call (takes_of rfl rfl rfl rfl) fun _ _ _ _ z => z) (pa_cons (pv 13) pa_nil))) (pv 8) (nomark _)) (pss_one (ps_ret pe_bl)) pss_nil))) (pss_one (ps_if (pt_not (pt_val (pe_call GE3 hr5 (by rfl) gE3 kE3 bE3 .nil pass0 (pa_cons (pe_meth (pv 14) TO.cl mBt GBt hr6 bBt .nil pass0 (pa_cons (pv 13) pa_nil)) (pa_cons (pv 7) pa_nil))))) (pss_one (ps_ret pe_bl)) pss_nil)))
      (C8.pss_cut (ps_if (PW.pt (pw_or (pt_cmpR (op_neD hu) (pv 13) (pv 6) (nomark _)) (pw_or1 (pt_not (pt_val (pe_call GT hr6 (by rfl) gT kT bT .nil pass0 (pa_cons (pv 14) (pa_cons (pv 2) pa_nil)))))))) (pss_one (ps_ret pe_bl)) pss_nil)
      (pss_cons (ps_set (i := 12) sc_law.nd rfl (.inl rfl) (pe_call GW hr2 (by rfl) gW kW bW .nil pass0 (pa_cons (pv 2) (pa_cons (pe_tup (pa_cons pe_str pa_nil)) pa_nil))))
      (pss_one (ps_if (pt_cmpR op_eq (pe_call GB hr2 (by rfl) gB kB bB .nil pass0 (pa_cons (pv 1) (pa_cons pe_int pa_nil))) pe_int (nomark _)) (pss_cons (ps_set (i := 2) sc_law.nd rfl (.inl rfl) (pe_ix ix_tup (pv 12) pe_int (fun _ _ => rfl)))
      (pss_one (ps_if (pt_not (pt_val (pe_call GE hr4 (by rfl) gE kE bE .nil pass0 (pa_cons (pe_meth0 (pv 14) TO.cl mD GD2 hr1 bD2 .nil pass0) (pa_cons (pe_ix ix_tup (pv 12) pe_int (fun _ _ => rfl)) pa_nil))))) (pss_one (ps_ret pe_bl)) pss_nil))) pss_nil)))))))))))
      (pss_one (ps_ret pe_bl)))))), ?_⟩
    refine ⟨_, rfl, a, ns, 22, rfl, hS, hlen, by decide, fun H1 d s1 nd D1 => ?_⟩
    let qL : Str := (PyProof.Rows.envOfC "law" (defScope s_law) 0 0 .none).qual ++ "<lambda>"
    have T1 : Tabs [(Pt, qL)] H1 := fun p hp => by
      rw [List.mem_singleton.mp hp]
      exact TabS.nil (s1 _ _ hPt)
    refine ⟨_, rfl, d, rfl, D1, fun H2 pa p h os ok sm b2 D2 npa ⟨t, hpa, hO⟩ => ?_⟩
    have T2 := tabs_butD T1 b2 D1
    refine ⟨(by show 0 ≤ sizeLine; decide), fun q0 nq => ?_⟩
    have s3 := same_upd (o := HO.lst []) nq
    refine ⟨(by show 0 ≤ sizeLine; decide), fun u0 nu => ?_⟩
    have s4 := same_upd (o := HO.lst []) nu
    refine ⟨(by show 3 ≤ sizeLine; decide), fun l nl => ?_⟩
    have s5 := same_upd (o := HO.lst [.ref pa, .ref q0, .ref u0]) nl
    have s25 := s3.trans (s4.trans s5)
    have R5 : WV p h _ l ⟨os, [], []⟩ pa q0 u0 [] [] := ⟨upd_same, ⟨t, s25 _ _ hpa, hO.keep (tk_of s25)⟩, (s4.trans s5) _ _ upd_same, .nil, s5 _ _ upd_same, .nil⟩
    have T5 := tabs_same T2 s25
    have D5 := D2.but s25
    clear s1 b2 D1 T1 T2
    refine ⟨_, rfl, l, _, 0, .ref pa, rfl, rfl, SqL.of R5.at_, atI_nat (j := 0) rfl, pa, t, p, h, os, rfl, s25 _ _ hpa, hO.keep (tk_of s25), ok, fun H6 x0 F s6 nF N => ?_⟩
    refine fun o dx no ndx nex => ?_
    have sA := (same_upd (o := HO.own o) ndx).trans (same_upd (o := HO.ins O dx []) ((upd_ne (o := HO.own o) (fun z => nex z.symm)).trans no))
    refine ⟨o, dx, x0, t, p, h, os, F, H6, rfl, N, sA, no, upd_same, fun H7 sn s7 A7 => ⟨rfl, ?_⟩⟩
    have s67 := s6.trans s7
    have dF : d ∉ F := fun z => by
      have := nF d z
      obtain ⟨_, _, _, _, _, hd⟩ := D5
      rw [hd] at this
      cases this
    have h2 := sm.2.1
    have J0 : J22 C O p h ⟨x0, t, p, h, os, F, [], 0, sn⟩ d o [(Pt, qL)] H7 l pa q0 u0 [] [] (8 * 0) := ⟨D5.but s67, A7, ⟨rfl, rfl, Nat.le_refl _, ok, fun s z => by cases z⟩, R5.same s67, Nat.le_refl _, dF, tabs_same T5 s67⟩
    clear D5 T5 R5 sA s3 s4 s5 s6 s7 s67 s25 N A7 hpa hO D2 hPt hS ndx nex no nF nl nu nq npa
    refine ⟨fun _ _ => True, ?_, fun σ H' _ => q H'⟩
    refine ⟨4, rfl, by decide, by decide, ?_⟩
    refine for_range (lo := 0) (n := (4 : Int).toNat) (fun i σ H' => ∃ (y3 y4 y5 y6 y7 y8 y9 y10 y11 y12 y13 : Option V) (l a' q u : Addr) (qs us : List V) (S : OffS), σ = [some (.ref a), some (.ref d), some (.ref l), y3, y4, y5, y6, y7, y8, y9, y10, y11, y12, y13, some (.ref o)] ∧ J22 C O p h S d o [(Pt, qL)] H' l a' q u qs us (8 * i))
      ⟨_, _, _, _, _, _, _, _, _, _, _, l, pa, q0, u0, [], [], _, rfl, J0⟩ ?_ (fun _ _ _ => trivial)
    clear J0 dF
    rintro i σ H8 hi ⟨y3, y4, y5, y6, y7, y8, y9, y10, y11, y12, y13, l, a', q, u, qs, us, S, rfl, J⟩
    have hi4 : i < 4 := hi
    refine ⟨_, rfl, (by show 1 ≤ sizeLine; decide), fun b nb => ?_⟩
    have J1 := J.same (same_upd (o := HO.tup [.str "undo"]) nb)
    have hb1 : OpIAt (L2.upd H8 b (.tup [.str "undo"])) b .undo := upd_same
    clear J
    generalize (L2.upd H8 b (.tup [.str "undo"])) = H1 at J1 hb1
    have G := opGo (op := .undo) J1.k trivial rfl
    obtain ⟨w1, w2⟩ := books_words J1.k
    have bl := books_lens (S := S)
    have sl := J1.len
    refine ⟨_, b, p, h, S.books, _, _, _, _, _, .undo, rfl, J1.R, hb1, J1.k.cur.len, by omega, by omega, w1, w2, fun j H3 r hE => (by cases hE), fun H3 r v l' a2 q2 u2 qs2 us2 hE s3 hr hv hW hq => ?_⟩
    have J3 := J1.same s3
    clear J1 hb1
    refine ⟨fun σ' H' => ∃ (y4 : Option V) (l a' q u : Addr) (qs us : List V) (S : OffS), σ' = [some (.ref a), some (.ref d), some (.ref l), some (.int (0 + (i : Int))), y4, y5, y6, y7, y8, y9, y10, y11, y12, y13, some (.ref o)] ∧ J22 C O p h S d o [(Pt, qL)] H' l a' q u qs us (8 * i), ?_, ?_⟩
    · refine ⟨_, rfl, d, 2, rfl, J3.D, by decide, by decide, fun H4 rr hrr b4 D4 => ⟨rfl, _, rfl, ite2 (fun _ => ?_) (fun _ => ⟨_, _, _, _, _, _, _, S, rfl, J3.butD b4 D4⟩)⟩⟩
      have J4 := J3.butD b4 D4
      have tk4 := b4.tk J3.D
      obtain ⟨dx4, fs4, _, _, ho4, R4, _⟩ := id J4.A
      refine ⟨_, rfl, r, _, 2, .ref l', rfl, rfl, SqT.of (tk4 _ _ hr), atI_nat (j := 2) rfl, ?_⟩
      refine ⟨_, rfl, o, dx4, fs4, rfl, ho4, R4.no _ (by decide +kernel) (by decide +kernel) (by decide +kernel) (by decide +kernel), o, S, rfl, J4.A, fun H5 v1 b5 A5 hv1 => ?_⟩
      have k5 := tk_ins b5 ho4
      refine ⟨_, rfl, r, _, 1, v, rfl, rfl, SqT.of (k5 _ _ (tk4 _ _ hr)), atI_nat (j := 1) rfl, v1, v, rfl, val_eqv (op := .undo) J4.k.e hv1 hv, fun H6' s6'' => ⟨true, rfl, ?_⟩⟩
      refine iteF ?_
      have W5 := hW.but b4 J3.D
      rw [← G.books] at W5
      exact ⟨_, _, _, _, _, _, _, nextO S (OpI.undo).toN, rfl, (J4.off b5 A5 G.next W5 J4.len G.F).same s6''⟩
    clear J3 hr hv hW hq G w1 w2 bl sl s3 nb
    clear r l' a2 q2 u2 qs2 us2 v b H1 H3
    rintro σ H1 ⟨y4, l, a', q, u, qs, us, S, rfl, J⟩
    refine ⟨_, rfl, (by show 0 ≤ sizeLine; decide), fun ol nol => ?_⟩
    have s1 := same_upd (o := HO.lst []) nol
    have hol : (L2.upd H1 ol (.lst [])) ol = some (.lst []) := upd_same
    have od : ol ≠ d := (ne_of_none J.D.som.choose_spec nol).symm
    have n0 : l ≠ ol ∧ q ≠ ol ∧ u ≠ ol := ⟨ne_of_none J.R.at_ nol, ne_of_none J.R.q nol, ne_of_none J.R.u nol⟩
    have oF : ol ∉ S.F := by
      obtain ⟨_, _, _, _, _, _, _, _, _, N, _⟩ := id J.A
      exact N.new nol
    have J1 := J.same s1
    generalize (L2.upd H1 ol (.lst [])) = H2 at J1 hol
    clear J
    refine ⟨(by show 0 ≤ sizeLine; decide), fun rl nrl => ?_⟩
    have s2 := same_upd (o := HO.lst []) nrl
    have hrl : (L2.upd H2 rl (.lst [])) rl = some (.lst []) := upd_same
    have ro : rl ≠ ol := (ne_of_none hol nrl).symm
    have rd : rl ≠ d := (ne_of_none J1.D.som.choose_spec nrl).symm
    have J2 := J1.same s2
    have hol := s2 _ _ hol
    generalize (L2.upd H2 rl (.lst [])) = H3 at J2 hol hrl
    clear J1
    refine ⟨(by show 4 ≤ sizeLine; decide), fun tp ntp => ?_⟩
    have s3 := same_upd (o := HO.tup [.ref l, .ref ol, .ref rl, .non]) ntp
    refine ⟨tp, _, rfl, SqT.of upd_same, rfl, _, _, rfl, _, _, rfl, _, _, rfl, _, _, rfl, rfl, ?_⟩
    have I0 : I22 C O p h S d o [(Pt, qL)] ol _ l a' q u qs us (8 * i) rl l a' q u qs us .non [] 0 0 := ⟨J2.same s3, od, n0, oF, ⟨[], s3 _ _ hol, .nil⟩, Nat.le_refl _, Nat.le_refl _, fun j op lt _ => (by omega), J2.k, J2.R.same s3, n0, .inl ⟨rfl, rfl, ro, rd, [], s3 _ _ hrl, .nil⟩⟩
    clear J2 hol hrl s1 s2 s3 od n0 oF ro rd
    generalize (L2.upd H3 tp (.tup [.ref l, .ref ol, .ref rl, .non])) = H4 at I0
    refine ⟨fun σ' H' => ∃ (y9 y10 y11 : Option V) (rl l1 a1 q1 u1 : Addr) (qs1 us1 : List V) (bv : V) (ops : List OpI) (k : Nat), σ' = [some (.ref a), some (.ref d), some (.ref l1), some (.int (0 + (i : Int))), y4, some (.ref l), some (.ref ol), some (.ref rl), some bv, y9, y10, y11, y12, y13, some (.ref o)] ∧ I22 C O p h S d o [(Pt, qL)] ol H' l a' q u qs us (8 * i) rl l1 a1 q1 u1 qs1 us1 bv ops k ops.length ∧ ops.length ≤ 8, ?_, ?_⟩
    · refine ⟨_, rfl, (by show 2 ≤ sizeLine; decide), fun z nz => ?_⟩
      have sz := same_upd (o := HO.lst [.int 4, .int 9]) nz
      have I1 := I0.same sz
      have hz : (L2.upd H4 z (.lst [.int 4, .int 9])) z = some (.lst [.int 4, .int 9]) := upd_same
      have zd : z ≠ d := (ne_of_none I0.J.D.som.choose_spec nz).symm
      clear I0
      generalize (L2.upd H4 z (.lst [.int 4, .int 9])) = H5 at I1 hz
      refine ⟨_, rfl, d, 2, rfl, I1.J.D, by decide, by decide, fun H6 r hr b6 D6 => ?_⟩
      have I2 := I1.butD b6 D6
      have hz := b6 _ _ zd hz
      clear I1
      have lim : ∃ L : Nat, atI [V.int 4, V.int 9] ((r : Nat) : Int) = some (.int (L : Nat)) ∧ 0 < L ∧ L ≤ 9 := by
        match r, hr with
        | 0, _ => exact ⟨4, atI_nat (j := 0) rfl, by decide, by decide⟩
        | 1, _ => exact ⟨9, atI_nat (j := 1) rfl, by decide, by decide⟩
      obtain ⟨L, hL, L0, L9⟩ := lim
      refine ⟨z, _, _, _, rfl, rfl, SqL.of hz, hL, d, L, rfl, I2.J.D, L0, by omega, fun H7 r2 hr2' b7 D7 => ?_⟩
      have I3 := I2.butD b7 D7
      clear I2 hz zd sz nz b6 b7 hL
      generalize H7 = H8 at I3
      refine ⟨(r2 : Nat), rfl, by omega, by omega, ?_⟩
      refine for_range (lo := 0) (n := ((r2 : Nat) : Int).toNat) (fun n σ' H' => ∃ (y9 y10 y11 : Option V) (rl l1 a1 q1 u1 : Addr) (qs1 us1 : List V) (bv : V) (ops : List OpI) (k : Nat), σ' = [some (.ref a), some (.ref d), some (.ref l1), some (.int (0 + (i : Int))), y4, some (.ref l), some (.ref ol), some (.ref rl), some bv, y9, y10, y11, y12, y13, some (.ref o)] ∧ I22 C O p h S d o [(Pt, qL)] ol H' l a' q u qs us (8 * i) rl l1 a1 q1 u1 qs1 us1 bv ops k ops.length ∧ ops.length = n)
        ⟨_, _, _, _, _, _, _, _, _, _, _, [], 0, rfl, I3, rfl⟩ ?_ ?_
      · clear I3
        rintro n σ H5 hn ⟨y9, y10, y11, rl, l1, a1, q1, u1, qs1, us1, bv, ops, k, rfl, I, ln⟩
        have hn8 : n < 8 := by
          have : (((r2 : Nat) : Int)).toNat = r2 := Int.toNat_natCast r2
          omega
        have kc := I.ok.cur
        obtain ⟨t', ha', hO'⟩ := id I.R.parts
        refine ⟨_, rfl, _, rfl, l1, _, 0, .ref a1, rfl, rfl, SqL.of I.R.at_, atI_nat (j := 0) rfl, d, a1, t', p, h, _, rfl, I.J.D, ha', hO', kc.p1, kc.p30, h2, kc.h10, kc.len, fun H9 b op b9 D9 nb hop wf => ?_⟩
        have I9 := I.butD b9 D9
        clear I ha' hO' b9 D9
        obtain ⟨xs, hol, hX⟩ := id I9.Os
        have xl := hX.length
        refine ⟨_, rfl, .inl ⟨rfl, _, SqL.of hol⟩, _, rfl, ol, xs, .ref b, rfl, rfl, hol, small1000 (by omega), ?_⟩
        have IA := I9.push hop hol
        have hopA := hop.keep (TupKeep.lst (o := HO.lst (xs ++ [.ref b])) hol)
        clear I9 hX
        generalize (L2.upd H9 ol (.lst (xs ++ [.ref b]))) = HA at IA hopA
        have eo : (ops ++ [op])[ops.length]? = some op := List.getElem?_concat_length
        have lo : (ops ++ [op]).length = ops.length + 1 := by rw [List.length_append]; rfl
        generalize ops ++ [op] = ops2 at IA eo lo
        clear hop nb
        refine ⟨_, rfl, rfl, ?_⟩
        rcases id IA.v with ⟨rfl, kn, nr, nd', rs, hrs, hR⟩ | ⟨r, j, bad, rfl, vr⟩
        · refine ⟨true, by rfl, iteT ?_⟩
          subst kn
          obtain ⟨w1, w2⟩ := books_words IA.ok
          have bl := books_lens (S := nextAll S (toNs (ops2.take ops.length)))
          have nl := nextAll_len (toNs (ops2.take ops.length)) S
          rw [toNs, List.length_map, List.length_take, ← toNs] at nl
          have sl := IA.J.len
          have i1 := IA.nl
          obtain ⟨_, hoA, _⟩ := id IA.Os
          refine ⟨fun σ' H' => Same HA H' ∧ ∃ r : Addr, σ' = [some (.ref a), some (.ref d), some (.ref l1), some (.int (0 + (i : Int))), y4, some (.ref l), some (.ref ol), some (.ref rl), some .non, some (.int (0 + (n : Int))), some (.ref b), some (.ref r), y12, y13, some (.ref o)] ∧ ((∃ j, errI p (nextAll S (toNs (ops2.take ops.length))).cur op = some j ∧ H' r = some (.tup [.str (errW (some j)), .int 0])) ∨
            ∃ v l' a2 q2 u2 qs2 us2, errI p (nextAll S (toNs (ops2.take ops.length))).cur op = none ∧ H' r = some (.tup [.str "", v, .ref l']) ∧ ValW H' v (nextAll S (toNs (ops2.take ops.length))).books op ∧ WV p h H' l' (wNext (nextAll S (toNs (ops2.take ops.length))).books op) a2 q2 u2 qs2 us2 ∧ (l' ≠ ol ∧ q2 ≠ ol ∧ u2 ≠ ol)), ?_, ?_⟩
          · refine ⟨_, rfl, _, rfl, l1, b, p, h, _, a1, q1, u1, qs1, us1, op, rfl, IA.R, hopA, IA.ok.cur.len, by omega, by omega, w1, w2, fun j H3 r hE s3 hr => ⟨s3, r, rfl, .inl ⟨j, hE, hr⟩⟩,
              fun H3 r v l' a2 q2 u2 qs2 us2 hE s3 hr hv hW hq => ⟨s3, r, rfl, .inr ⟨v, l', a2, q2, u2, qs2, us2, hE, hr, hv, hW, ?_⟩⟩⟩
            obtain ⟨h1, h2, h3⟩ := hq
            refine ⟨?_, ?_, ?_⟩
            · rcases h1 with rfl | h1
              · exact i1.1
              · exact (ne_of_none hoA h1).symm
            · rcases h2 with rfl | h2
              · exact i1.2.1
              · exact (ne_of_none hoA h2).symm
            · rcases h3 with rfl | h3
              · exact i1.2.2
              · exact (ne_of_none hoA h3).symm
          rintro σ HB ⟨sB, r, rfl, hm⟩
          have IB := IA.same sB
          have hrsB := sB _ _ hrs
          have hRB := Paired.mapP hR fun _ _ z => RvAt.keep (tk_of sB) z
          clear IA hrs hR hopA hoA i1
          rcases hm with ⟨j, hE, hr⟩ | ⟨v, l', a2, q2, u2, qs2, us2, hE, hr, hv, hW, n2⟩
          · have je := errI_some hE
            refine ⟨_, rfl, r, _, 0, _, rfl, rfl, SqT.of hr, atI_nat (j := 0) rfl, rfl, true, congrArg V.bl (by rw [decide_eq_false (fun y => errW_ne je (V.str.inj y))]; rfl), iteT ?_⟩
            have IF := IB.fail eo wf hE hr
            rw [← lo] at IF
            exact ⟨_, rfl, _, _, _, _, _, _, _, _, _, _, _, ops2, _, rfl, IF, by omega⟩
          · refine ⟨_, rfl, r, _, 0, _, rfl, rfl, SqT.of hr, atI_nat (j := 0) rfl, rfl, false, congrArg V.bl (by rw [decide_eq_true rfl]; rfl), iteF ?_⟩
            have rsl := hRB.length
            rw [resAll_len, toNs, List.length_map, List.length_take] at rsl
            refine ⟨_, rfl, _, rfl, r, _, 1, v, rfl, rfl, SqT.of hr, atI_nat (j := 1) rfl, (by show 1 ≤ sizeLine; decide), fun tl ntl => ?_⟩
            have s1 := same_upd (o := HO.lst [v]) ntl
            refine ⟨rl, tl, rs, _, rfl, rfl, s1 _ _ hrsB, upd_same, Nat.le_of_lt (small1000 (by show rs.length + 1 ≤ 1000; omega)), fun rl' nrl' => ?_⟩
            have s2 := s1.trans (same_upd (o := HO.lst (rs ++ [v])) nrl')
            have hrl' : (L2.upd (L2.upd HB tl (.lst [v])) rl' (.lst (rs ++ [v]))) rl' = some (.lst (rs ++ [v])) := upd_same
            have nr' : rl' ≠ ol := by
              obtain ⟨_, hoB, _⟩ := id IB.Os
              exact (ne_of_none hoB (s1.free nrl')).symm
            have ndl : rl' ≠ d := (ne_of_none IB.J.D.som.choose_spec (s1.free nrl')).symm
            generalize (L2.upd (L2.upd HB tl (.lst [v])) rl' (.lst (rs ++ [v]))) = HC at s2 hrl'
            refine ⟨_, rfl, r, _, 2, .ref l', rfl, rfl, SqT.of (s2 _ _ hr), atI_nat (j := 2) rfl, ?_⟩
            have IG := (IB.same s2).go eo wf hE (valW_keep (tk_of s2) hv) (Paired.mapP hRB fun _ _ z => RvAt.keep (tk_of s2) z) (hW.same s2) n2 hrl' nr' ndl
            rw [← lo] at IG
            exact ⟨_, _, rfl, _, _, _, _, _, _, _, _, _, _, _, ops2, _, rfl, IG, by omega⟩
        · refine ⟨false, by rfl, iteF ?_⟩
          exact ⟨_, _, _, _, _, _, _, _, _, _, _, ops2, k, rfl, ⟨IA.J, IA.nd, IA.n0, IA.oF, IA.Os, by have := IA.km; omega, Nat.le_refl _, IA.run, IA.ok, IA.R, IA.nl, .inr ⟨r, j, bad, rfl, vr⟩⟩, by omega⟩
      · rintro σ H5 ⟨y9, y10, y11, rl, l1, a1, q1, u1, qs1, us1, bv, ops, k, rfl, I, ln⟩
        have : (((r2 : Nat) : Int)).toNat = r2 := Int.toNat_natCast r2
        exact ⟨_, _, _, _, _, _, _, _, _, _, _, _, _, rfl, I, by omega⟩
    rintro σ H5 ⟨y9, y10, y11, rl, l1, a1, q1, u1, qs1, us1, bv, ops, k, rfl, I, ln⟩
    clear I0
    obtain ⟨xs, hol, hX⟩ := id I.Os
    have xl := hX.length
    refine ⟨_, rfl, ol, xs, rfl, .inl (SqL.of hol), fun g ng => ?_⟩
    have sg := same_upd (o := HO.lst xs) ng
    have I1 := I.same sg
    have hg : (L2.upd H5 g (.lst xs)) g = some (.lst xs) := upd_same
    have hX1 := Paired.mapP hX fun v (op : OpI) (z : ∃ a, v = .ref a ∧ OpIAt H5 a op) => (by
      obtain ⟨a, e, ha⟩ := z
      exact ⟨a, e, ha.keep (tk_of sg)⟩ : ∃ a, v = .ref a ∧ OpIAt (L2.upd H5 g (.lst xs)) a op)
    clear I hol hX sg ng
    generalize (L2.upd H5 g (.lst xs)) = H6 at I1 hg hX1
    have sl := I1.J.len
    have nl := nextAll_len (toNs ops) S
    rw [toNs, List.length_map, ← toNs] at nl
    refine ⟨fun σ' H' => ∃ (l2 a2 q2 u2 : Addr) (qs2 us2 : List V) (S2 : OffS), σ' = [some (.ref a), some (.ref d), some (.ref l2), some (.int (0 + (i : Int))), y4, some (.ref l), some (.ref ol), some (.ref rl), some bv, y9, y10, y11, y12, some (.ref g), some (.ref o)] ∧ J22 C O p h S2 d o [(Pt, qL)] H' l2 a2 q2 u2 qs2 us2 (8 * (i + 1)) ∧ OpsIAt H' g ops ∧ OpsIAt H' ol ops, ?_, ?_⟩
    · refine ⟨_, rfl, rfl, ?_⟩
      rcases id I1.v with ⟨rfl, kn, nr, nd', rs, hrs, hR⟩ | ⟨r, j, bad, rfl, hr, eo, wf, hE⟩
      · refine ⟨false, by rfl, iteF ?_⟩
        subst kn
        have run := I1.run
        have ok := I1.ok
        have R := I1.R
        rw [List.take_length] at ok R hR
        have gA := goAll_run run ops.length (Nat.le_refl _)
        rw [List.take_length] at gA
        obtain ⟨dx, fs, _, _, ho, Ro, _⟩ := id I1.J.A
        have opsN : OpsAt H6 g (toNs ops) := opsI_n ⟨xs, hg, hX1⟩ fun op hop => by
          obtain ⟨m, lt, e⟩ := List.getElem_of_mem hop
          have e2 : ops[m]? = some op := by rw [List.getElem?_eq_getElem lt, e]
          exact (run m op lt e2).2
        have rsl := hR.length
        rw [resAll_len, toNs, List.length_map] at rsl
        refine ⟨_, rfl, o, dx, fs, rfl, ho, Ro.no _ (by decide +kernel) (by decide +kernel) (by decide +kernel) (by decide +kernel), _, rfl, o, g, toNs ops, S, rfl, I1.J.A, opsN, by rw [toNs, List.length_map]; omega, by omega, gA, fun H7 r rs' b7 A7 _ hr7 hR7 => ?_⟩
        have k7 := tk_ins b7 ho
        have ln : ∀ {z : Addr} {ys : List V}, H6 z = some (.lst ys) → H7 z = some (.lst ys) := fun e => b7 _ _ (ne_of e ho (by intro z; cases z)) e
        have rsl' := hR7.length
        rw [resAll_len, toNs, List.length_map] at rsl'
        refine ⟨_, rfl, .ref r, .ref rl, rfl, .inr (.inr ⟨r, rl, rs', rs, rfl, rfl, hr7, ln hrs, by omega, rvs_eqv hR7 (Paired.mapP hR fun _ _ z => z.keep k7)⟩), fun H8' s8 => ⟨true, rfl, iteF ?_⟩⟩
        refine ⟨l1, a1, q1, u1, qs1, us1, _, rfl, (I1.J.off b7 A7 ok R (by omega) nextAll_fix.2).same s8, OpsIAt.keep (OpsIAt.keep ⟨xs, hg, hX1⟩ k7 fun _ e => ln e) (tk_of s8) fun _ e => s8 _ _ e, OpsIAt.keep (OpsIAt.keep I1.Os k7 fun _ e => ln e) (tk_of s8) fun _ e => s8 _ _ e⟩
      · refine ⟨true, by rfl, iteT ?_⟩
        have je := errI_some hE
        refine ⟨_, rfl, I1.J.T, fun H7 eN T7 => ?_⟩
        have J7 := I1.J.extN eN T7
        have tkE : TupKeep H6 H7 := ExtN.tk eN
        have lE : ∀ {z : Addr} {ys : List V}, H6 z = some (.lst ys) → H7 z = some (.lst ys) := fun e => eN _ _ e fun ps y => by cases y
        have og7 : OpsIAt H7 g ops := OpsIAt.keep ⟨xs, hg, hX1⟩ tkE fun _ e => lE e
        have oo7 : OpsIAt H7 ol ops := OpsIAt.keep I1.Os tkE fun _ e => lE e
        have hr7 := tkE _ _ hr
        obtain ⟨dx, fs, _, _, ho, Ro, _⟩ := id J7.A
        refine ⟨_, rfl, o, dx, fs, rfl, ho, Ro.no _ (by decide +kernel) (by decide +kernel) (by decide +kernel) (by decide +kernel), _, rfl, o, g, ops, S, k, j, bad, rfl, J7.A, og7, by omega, by omega, I1.run, eo, ⟨by rw [I1.ok.pe, I1.ok.he]; exact I1.ok.cur, by rw [I1.ok.pe, I1.ok.he]; exact wf, by rw [I1.ok.pe]; exact hE⟩, fun H8' b8 A8 => ⟨cE j, j, rfl, rfl, e15 j je, by omega, fun z1 H9 s9 hz1 => ?_⟩⟩
        have k8 := tk_ins b8 ho
        have k89 := k8.trans (tk_of s9)
        have ln : ∀ {z : Addr} {ys : List V}, H7 z = some (.lst ys) → H9 z = some (.lst ys) := fun e => s9 _ _ (b8 _ _ (ne_of e ho (by intro z; cases z)) e)
        refine ⟨_, rfl, errD2 j, errD2 j, .tup (SqT.of hz1) (.cons (.str _) (.cons (.int _) .nil)), ?_, errD2_shaped j (by omega), errD2_shaped j (by omega), false, congrArg V.bl (eqv_selfN (errD2_shaped j (by omega))), iteF ?_⟩
        · have hr9 := k89 _ _ hr7
          rcases je with rfl | rfl | rfl <;> exact .tup (SqT.of hr9) (.cons (.str _) (.cons (.int _) .nil))
        · exact ⟨l, a', q, u, qs, us, S, rfl, (J7.off b8 A8 J7.k J7.R (by omega) rfl).same s9, og7.keep k89 fun _ e => ln e, oo7.keep k89 fun _ e => ln e⟩
    rintro σ HA ⟨l2, a2, q2, u2, qs2, us2, S2, rfl, J, og, oo⟩
    clear I1 hg hX1
    refine ⟨fun σ' H' => σ' = [some (.ref a), some (.ref d), some (.ref l2), some (.int (0 + (i : Int))), y4, some (.ref l), some (.ref ol), some (.ref rl), some bv, y9, y10, y11, y12, some (.ref g), some (.ref o)] ∧ J22 C O p h S2 d o [(Pt, qL)] H' l2 a2 q2 u2 qs2 us2 (8 * (i + 1)), ?_, ?_⟩
    · have sl2 := J.len
      refine ⟨_, rfl, _, rfl, _, _, opsI_dp og, opsI_dp oo, opsI_sh ops, opsI_sh ops, false, congrArg V.bl (eqv_selfN (opsI_sh ops)), iteF ?_⟩
      exact ⟨_, rfl, _, rfl, o, l2, p, h, S2, a2, q2, u2, qs2, us2, rfl, J.A, J.R, by omega, J.k.cur.len, fun H7 s7 => ⟨true, rfl, iteF ⟨rfl, J.same s7⟩⟩⟩
    rintro σ HB ⟨rfl, J0⟩
    clear J og oo
    refine ⟨_, rfl, (by show 1 ≤ sizeLine; decide), fun b nb => ?_⟩
    have J1 := J0.same (same_upd (o := HO.tup [.str "redo"]) nb)
    have hb1 : OpIAt (L2.upd HB b (.tup [.str "redo"])) b .redo := upd_same
    clear J0
    generalize (L2.upd HB b (.tup [.str "redo"])) = HC at J1 hb1
    have G := opGo (op := .redo) J1.k trivial rfl
    obtain ⟨w1, w2⟩ := books_words J1.k
    have bl := books_lens (S := S2)
    have sl2 := J1.len
    refine ⟨_, b, p, h, S2.books, _, _, _, _, _, .redo, rfl, J1.R, hb1, J1.k.cur.len, by omega, by omega, w1, w2, fun j H3 r hE => (by cases hE), fun H3 r v l' a3 q3 u3 qs3 us3 hE s3 hr hv hW hq => ?_⟩
    have J3 := J1.same s3
    clear J1 hb1
    refine ⟨_, rfl, d, 2, rfl, J3.D, by decide, by decide, fun H4 rr hrr b4 D4 => ⟨rfl, _, rfl, ite2 (fun _ => ?_) (fun _ => ⟨_, _, _, _, _, _, _, _, _, _, _, _, _, _, _, _, _, S2, rfl, J3.butD b4 D4⟩)⟩⟩
    have J4 := J3.butD b4 D4
    have tk4 := b4.tk J3.D
    obtain ⟨dx4, fs4, _, _, ho4, R4, _⟩ := id J4.A
    refine ⟨_, rfl, r, _, 2, .ref l', rfl, rfl, SqT.of (tk4 _ _ hr), atI_nat (j := 2) rfl, ?_⟩
    refine ⟨_, rfl, o, dx4, fs4, rfl, ho4, R4.no _ (by decide +kernel) (by decide +kernel) (by decide +kernel) (by decide +kernel), o, S2, rfl, J4.A, fun H5 v1 b5 A5 hv1 => ?_⟩
    have k5 := tk_ins b5 ho4
    refine ⟨_, rfl, r, _, 1, v, rfl, rfl, SqT.of (k5 _ _ (tk4 _ _ hr)), atI_nat (j := 1) rfl, v1, v, rfl, val_eqv (op := .redo) J4.k.e hv1 hv, fun H6' s6'' => ⟨true, rfl, ?_⟩⟩
    refine iteF ?_
    have W5 := hW.but b4 J3.D
    rw [← G.books] at W5
    exact ⟨_, _, _, _, _, _, _, _, _, _, _, _, _, _, _, _, _, nextO S2 (OpI.redo).toN, rfl, (J4.off b5 A5 G.next W5 J4.len G.F).same s6''⟩
end
set_option maxHeartbeats 0 in
theorem all_mk {l : PySem.W.OpenLaw} {w : World} {K : PySem.W.Frag} {h : Heap} {mg : Str → Option Value} {fa : Addr} (X : K.In h) (G : h.Ns mainGlobals mg) (hfa : mg "law" = some (.ref fa)) (own : LamX.OwnTab K fa h)
    {C_Net : Addr}
    {C_Office : Addr}
    {cL PL : Addr} {ecL : Value} {dcL : Option Addr} {vsL : Array Value} {slcL : Array (Option Value)}
    {f1 : Addr} {od1 an1 : Option Addr} {sl1 : Array (Option Value)} {oc1 kV1 dc1 pm1 cd1 ct1 : Value}
    {f2 : Addr} {od2 an2 : Option Addr} {sl2 : Array (Option Value)} {oc2 kV2 dc2 pm2 cd2 ct2 : Value}
    {f3 : Addr} {od3 an3 : Option Addr} {sl3 : Array (Option Value)} {oc3 kV3 dc3 pm3 cd3 ct3 : Value}
    {f4 : Addr} {od4 an4 : Option Addr} {sl4 : Array (Option Value)} {oc4 kV4 dc4 pm4 cd4 ct4 : Value}
    {f5 : Addr} {od5 an5 : Option Addr} {sl5 : Array (Option Value)} {oc5 kV5 dc5 pm5 cd5 ct5 : Value}
    {f6 : Addr} {od6 an6 : Option Addr} {sl6 : Array (Option Value)} {oc6 kV6 dc6 pm6 cd6 ct6 : Value}
    {f7 : Addr} {od7 an7 : Option Addr} {sl7 : Array (Option Value)} {oc7 kV7 dc7 pm7 cd7 ct7 : Value}
    {f8 : Addr} {od8 an8 : Option Addr} {sl8 : Array (Option Value)} {oc8 kV8 dc8 pm8 cd8 ct8 : Value}
    {f9 : Addr} {od9 an9 : Option Addr} {sl9 : Array (Option Value)} {oc9 kV9 dc9 pm9 cd9 ct9 : Value}
    {f10 : Addr} {od10 an10 : Option Addr} {sl10 : Array (Option Value)} {oc10 kV10 dc10 pm10 cd10 ct10 : Value}
    {f11 : Addr} {od11 an11 : Option Addr} {sl11 : Array (Option Value)} {oc11 kV11 dc11 pm11 cd11 ct11 : Value}
    {f12 : Addr} {od12 an12 : Option Addr} {sl12 : Array (Option Value)} {oc12 kV12 dc12 pm12 cd12 ct12 : Value}
    {f13 : Addr} {od13 an13 : Option Addr} {sl13 : Array (Option Value)} {oc13 kV13 dc13 pm13 cd13 ct13 : Value}
    {f14 : Addr} {od14 an14 : Option Addr} {sl14 : Array (Option Value)} {oc14 kV14 dc14 pm14 cd14 ct14 : Value}
    {f15 : Addr} {od15 an15 : Option Addr} {sl15 : Array (Option Value)} {oc15 kV15 dc15 pm15 cd15 ct15 : Value}
    {f16 : Addr} {od16 an16 : Option Addr} {sl16 : Array (Option Value)} {oc16 kV16 dc16 pm16 cd16 ct16 : Value}
    {f17 : Addr} {od17 an17 : Option Addr} {sl17 : Array (Option Value)} {oc17 kV17 dc17 pm17 cd17 ct17 : Value}
    {f18 : Addr} {od18 an18 : Option Addr} {sl18 : Array (Option Value)} {oc18 kV18 dc18 pm18 cd18 ct18 : Value}
    {f19 : Addr} {od19 an19 : Option Addr} {sl19 : Array (Option Value)} {oc19 kV19 dc19 pm19 cd19 ct19 : Value}
    {f20 : Addr} {od20 an20 : Option Addr} {sl20 : Array (Option Value)} {oc20 kV20 dc20 pm20 cd20 ct20 : Value}
    {f21 : Addr} {od21 an21 : Option Addr} {sl21 : Array (Option Value)} {oc21 kV21 dc21 pm21 cd21 ct21 : Value}
    {f22 : Addr} {od22 an22 : Option Addr} {sl22 : Array (Option Value)} {oc22 kV22 dc22 pm22 cd22 ct22 : Value}
    {f23 : Addr} {od23 an23 : Option Addr} {sl23 : Array (Option Value)} {oc23 kV23 dc23 pm23 ct23 : Value}
    {f24 : Addr} {od24 an24 : Option Addr} {sl24 : Array (Option Value)} {oc24 kV24 dc24 pm24 cd24 ct24 : Value}
    {f25 : Addr} {od25 an25 : Option Addr} {sl25 : Array (Option Value)} {oc25 kV25 dc25 pm25 cd25 ct25 : Value}
    {f26 : Addr} {od26 an26 : Option Addr} {sl26 : Array (Option Value)} {oc26 kV26 dc26 pm26 cd26 ct26 : Value}
    {p26 : Addr} {pr26 : List Value}
    {f27 : Addr} {od27 an27 : Option Addr} {sl27 : Array (Option Value)} {oc27 kV27 dc27 pm27 cd27 ct27 : Value}
    {f28 : Addr} {od28 an28 : Option Addr} {sl28 : Array (Option Value)} {oc28 kV28 dc28 pm28 cd28 ct28 : Value}
    {f29 : Addr} {od29 an29 : Option Addr} {sl29 : Array (Option Value)} {oc29 kV29 dc29 pm29 cd29 ct29 : Value}
    {f30 : Addr} {od30 an30 : Option Addr} {sl30 : Array (Option Value)} {oc30 kV30 dc30 pm30 cd30 ct30 : Value}
    {f31 : Addr} {od31 an31 : Option Addr} {sl31 : Array (Option Value)} {oc31 kV31 dc31 pm31 cd31 ct31 : Value}
    {f32 : Addr} {od32 an32 : Option Addr} {sl32 : Array (Option Value)} {oc32 kV32 dc32 pm32 cd32 ct32 : Value}
    {f33 : Addr} {od33 an33 : Option Addr} {sl33 : Array (Option Value)} {oc33 kV33 dc33 pm33 cd33 ct33 : Value}
    {f34 : Addr} {od34 an34 : Option Addr} {sl34 : Array (Option Value)} {oc34 kV34 dc34 pm34 cd34 ct34 : Value}
    {p34 : Addr} {pr34 : List Value}
    {f35 : Addr} {od35 an35 : Option Addr} {sl35 : Array (Option Value)} {oc35 kV35 dc35 pm35 cd35 ct35 : Value}
    {f36 : Addr} {od36 an36 : Option Addr} {sl36 : Array (Option Value)} {oc36 kV36 dc36 pm36 cd36 ct36 : Value}
    {tkLONGEST_PERIOD : Tok}
    {tkMOST_HOUSES : Tok}
    {tkMOST_ORDERS : Tok}
    {tkLONGEST_DELAY : Tok}
    {d_ARGUMENTS : Addr} {es_ARGUMENTS : Array DictEntry} {n_ARGUMENTS : Nat} {t_ARGUMENTS_0 t_ARGUMENTS_1 t_ARGUMENTS_2 t_ARGUMENTS_3 t_ARGUMENTS_4 t_ARGUMENTS_5 : Tok}
    {CP E0 E1 E2 E3 E4 E5 E6 E7 E8 E9 E10 E11 E12 E13 E14 : Addr}
    (aCNet : PySem.W.nsIn K mainGlobals "Net" = some (some (.ref C_Net)))
    (aCOffice : PySem.W.nsIn K mainGlobals "Office" = some (some (.ref C_Office)))
    (a1 : PySem.W.nsIn K mainGlobals "is_integer" = some (some (.ref f1)))
    (l1 : K.lookup f1 = some ⟨oc1, od1, .func (PySem.W.fnOf "is_integer" "is_integer" (defArgs s_is_integer) (defBody s_is_integer) (defScope s_is_integer) .none kV1 dc1 pm1 an1 cd1 ct1), sl1⟩)
    (c1 : PySem.W.codeIn K cd1 "is_integer" = true)
    (k1 : PySem.W.keepIn K (.ref f1) = true)
    (a2 : PySem.W.nsIn K mainGlobals "is_within" = some (some (.ref f2)))
    (l2 : K.lookup f2 = some ⟨oc2, od2, .func (PySem.W.fnOf "is_within" "is_within" (defArgs s_is_within) (defBody s_is_within) (defScope s_is_within) .none kV2 dc2 pm2 an2 cd2 ct2), sl2⟩)
    (c2 : PySem.W.codeIn K cd2 "is_within" = true)
    (k2 : PySem.W.keepIn K (.ref f2) = true)
    (a3 : PySem.W.nsIn K mainGlobals "is_order" = some (some (.ref f3)))
    (l3 : K.lookup f3 = some ⟨oc3, od3, .func (PySem.W.fnOf "is_order" "is_order" (defArgs s_is_order) (defBody s_is_order) (defScope s_is_order) .none kV3 dc3 pm3 an3 cd3 ct3), sl3⟩)
    (c3 : PySem.W.codeIn K cd3 "is_order" = true)
    (k3 : PySem.W.keepIn K (.ref f3) = true)
    (a4 : PySem.W.nsIn K mainGlobals "check_orders" = some (some (.ref f4)))
    (l4 : K.lookup f4 = some ⟨oc4, od4, .func (PySem.W.fnOf "check_orders" "check_orders" (defArgs s_check_orders) (defBody s_check_orders) (defScope s_check_orders) .none kV4 dc4 pm4 an4 cd4 ct4), sl4⟩)
    (c4 : PySem.W.codeIn K cd4 "check_orders" = true)
    (k4 : PySem.W.keepIn K (.ref f4) = true)
    (a5 : PySem.W.nsIn K mainGlobals "find_followed" = some (some (.ref f5)))
    (l5 : K.lookup f5 = some ⟨oc5, od5, .func (PySem.W.fnOf "find_followed" "find_followed" (defArgs s_find_followed) (defBody s_find_followed) (defScope s_find_followed) .none kV5 dc5 pm5 an5 cd5 ct5), sl5⟩)
    (c5 : PySem.W.codeIn K cd5 "find_followed" = true)
    (k5 : PySem.W.keepIn K (.ref f5) = true)
    (a6 : PySem.W.nsIn K mainGlobals "_law_random" = some (some (.ref f6)))
    (l6 : K.lookup f6 = some ⟨oc6, od6, .func (PySem.W.fnOf "_law_random" "_law_random" (defArgs s_l_random) (defBody s_l_random) (defScope s_l_random) .none kV6 dc6 pm6 an6 cd6 ct6), sl6⟩)
    (c6 : PySem.W.codeIn K cd6 "_law_random" = true)
    (k6 : PySem.W.keepIn K (.ref f6) = true)
    (a7 : PySem.W.nsIn K mainGlobals "_law_below" = some (some (.ref f7)))
    (l7 : K.lookup f7 = some ⟨oc7, od7, .func (PySem.W.fnOf "_law_below" "_law_below" (defArgs s_l_below) (defBody s_l_below) (defScope s_l_below) .none kV7 dc7 pm7 an7 cd7 ct7), sl7⟩)
    (c7 : PySem.W.codeIn K cd7 "_law_below" = true)
    (k7 : PySem.W.keepIn K (.ref f7) = true)
    (a8 : PySem.W.nsIn K mainGlobals "_law_order" = some (some (.ref f8)))
    (l8 : K.lookup f8 = some ⟨oc8, od8, .func (PySem.W.fnOf "_law_order" "_law_order" (defArgs s_l_order) (defBody s_l_order) (defScope s_l_order) .none kV8 dc8 pm8 an8 cd8 ct8), sl8⟩)
    (c8 : PySem.W.codeIn K cd8 "_law_order" = true)
    (k8 : PySem.W.keepIn K (.ref f8) = true)
    (a9 : PySem.W.nsIn K mainGlobals "_law_small" = some (some (.ref f9)))
    (l9 : K.lookup f9 = some ⟨oc9, od9, .func (PySem.W.fnOf "_law_small" "_law_small" (defArgs s_l_small) (defBody s_l_small) (defScope s_l_small) .none kV9 dc9 pm9 an9 cd9 ct9), sl9⟩)
    (c9 : PySem.W.codeIn K cd9 "_law_small" = true)
    (k9 : PySem.W.keepIn K (.ref f9) = true)
    (a10 : PySem.W.nsIn K mainGlobals "_law_net" = some (some (.ref f10)))
    (l10 : K.lookup f10 = some ⟨oc10, od10, .func (PySem.W.fnOf "_law_net" "_law_net" (defArgs s_l_net) (defBody s_l_net) (defScope s_l_net) .none kV10 dc10 pm10 an10 cd10 ct10), sl10⟩)
    (c10 : PySem.W.codeIn K cd10 "_law_net" = true)
    (k10 : PySem.W.keepIn K (.ref f10) = true)
    (a11 : PySem.W.nsIn K mainGlobals "_law_equal" = some (some (.ref f11)))
    (l11 : K.lookup f11 = some ⟨oc11, od11, .func (PySem.W.fnOf "_law_equal" "_law_equal" (defArgs s_l_equal) (defBody s_l_equal) (defScope s_l_equal) .none kV11 dc11 pm11 an11 cd11 ct11), sl11⟩)
    (c11 : PySem.W.codeIn K cd11 "_law_equal" = true)
    (k11 : PySem.W.keepIn K (.ref f11) = true)
    (a12 : PySem.W.nsIn K mainGlobals "without_order" = some (some (.ref f12)))
    (l12 : K.lookup f12 = some ⟨oc12, od12, .func (PySem.W.fnOf "without_order" "without_order" (defArgs s_without_order) (defBody s_without_order) (defScope s_without_order) .none kV12 dc12 pm12 an12 cd12 ct12), sl12⟩)
    (c12 : PySem.W.codeIn K cd12 "without_order" = true)
    (k12 : PySem.W.keepIn K (.ref f12) = true)
    (a13 : PySem.W.nsIn K mainGlobals "check_index" = some (some (.ref f13)))
    (l13 : K.lookup f13 = some ⟨oc13, od13, .func (PySem.W.fnOf "check_index" "check_index" (defArgs s_check_index) (defBody s_check_index) (defScope s_check_index) .none kV13 dc13 pm13 an13 cd13 ct13), sl13⟩)
    (c13 : PySem.W.codeIn K cd13 "check_index" = true)
    (k13 : PySem.W.keepIn K (.ref f13) = true)
    (a14 : PySem.W.nsIn K mainGlobals "with_order" = some (some (.ref f14)))
    (l14 : K.lookup f14 = some ⟨oc14, od14, .func (PySem.W.fnOf "with_order" "with_order" (defArgs s_with_order) (defBody s_with_order) (defScope s_with_order) .none kV14 dc14 pm14 an14 cd14 ct14), sl14⟩)
    (c14 : PySem.W.codeIn K cd14 "with_order" = true)
    (k14 : PySem.W.keepIn K (.ref f14) = true)
    (a15 : PySem.W.nsIn K mainGlobals "_law_start" = some (some (.ref f15)))
    (l15 : K.lookup f15 = some ⟨oc15, od15, .func (PySem.W.fnOf "_law_start" "_law_start" (defArgs s_l_start) (defBody s_l_start) (defScope s_l_start) .none kV15 dc15 pm15 an15 cd15 ct15), sl15⟩)
    (c15 : PySem.W.codeIn K cd15 "_law_start" = true)
    (k15 : PySem.W.keepIn K (.ref f15) = true)
    (a16 : PySem.W.nsIn K mainGlobals "_law_operation" = some (some (.ref f16)))
    (l16 : K.lookup f16 = some ⟨oc16, od16, .func (PySem.W.fnOf "_law_operation" "_law_operation" (defArgs s_l_operation) (defBody s_l_operation) (defScope s_l_operation) .none kV16 dc16 pm16 an16 cd16 ct16), sl16⟩)
    (c16 : PySem.W.codeIn K cd16 "_law_operation" = true)
    (k16 : PySem.W.keepIn K (.ref f16) = true)
    (a17 : PySem.W.nsIn K mainGlobals "_law_changed" = some (some (.ref f17)))
    (l17 : K.lookup f17 = some ⟨oc17, od17, .func (PySem.W.fnOf "_law_changed" "_law_changed" (defArgs s_l_changed) (defBody s_l_changed) (defScope s_l_changed) .none kV17 dc17 pm17 an17 cd17 ct17), sl17⟩)
    (c17 : PySem.W.codeIn K cd17 "_law_changed" = true)
    (k17 : PySem.W.keepIn K (.ref f17) = true)
    (a18 : PySem.W.nsIn K mainGlobals "_law_worked" = some (some (.ref f18)))
    (l18 : K.lookup f18 = some ⟨oc18, od18, .func (PySem.W.fnOf "_law_worked" "_law_worked" (defArgs s_l_worked) (defBody s_l_worked) (defScope s_l_worked) .none kV18 dc18 pm18 an18 cd18 ct18), sl18⟩)
    (c18 : PySem.W.codeIn K cd18 "_law_worked" = true)
    (k18 : PySem.W.keepIn K (.ref f18) = true)
    (a19 : PySem.W.nsIn K mainGlobals "_law_stands" = some (some (.ref f19)))
    (l19 : K.lookup f19 = some ⟨oc19, od19, .func (PySem.W.fnOf "_law_stands" "_law_stands" (defArgs s_l_stands) (defBody s_l_stands) (defScope s_l_stands) .none kV19 dc19 pm19 an19 cd19 ct19), sl19⟩)
    (c19 : PySem.W.codeIn K cd19 "_law_stands" = true)
    (k19 : PySem.W.keepIn K (.ref f19) = true)
    (a20 : PySem.W.nsIn K mainGlobals "_law_error_of" = some (some (.ref f20)))
    (l20 : K.lookup f20 = some ⟨oc20, od20, .func (PySem.W.fnOf "_law_error_of" "_law_error_of" (defArgs s_l_error_of) (defBody s_l_error_of) (defScope s_l_error_of) .none kV20 dc20 pm20 an20 cd20 ct20), sl20⟩)
    (c20 : PySem.W.codeIn K cd20 "_law_error_of" = true)
    (k20 : PySem.W.keepIn K (.ref f20) = true)
    (a21 : PySem.W.nsIn K mainGlobals "is_operation" = some (some (.ref f21)))
    (l21 : K.lookup f21 = some ⟨oc21, od21, .func (PySem.W.fnOf "is_operation" "is_operation" (defArgs s_is_operation) (defBody s_is_operation) (defScope s_is_operation) .none kV21 dc21 pm21 an21 cd21 ct21), sl21⟩)
    (c21 : PySem.W.codeIn K cd21 "is_operation" = true)
    (k21 : PySem.W.keepIn K (.ref f21) = true)
    (a22 : PySem.W.nsIn K mainGlobals "check_operations" = some (some (.ref f22)))
    (l22 : K.lookup f22 = some ⟨oc22, od22, .func (PySem.W.fnOf "check_operations" "check_operations" (defArgs s_check_operations) (defBody s_check_operations) (defScope s_check_operations) .none kV22 dc22 pm22 an22 cd22 ct22), sl22⟩)
    (c22 : PySem.W.codeIn K cd22 "check_operations" = true)
    (k22 : PySem.W.keepIn K (.ref f22) = true)
    (a23 : PySem.W.nsIn K mainGlobals "law" = some (some (.ref f23)))
    (l23 : K.lookup f23 = some ⟨oc23, od23, .func (PySem.W.fnOf "law" "law" (defArgs s_law) (defBody s_law) (defScope s_law) .none kV23 dc23 pm23 an23 (.ref cL) ct23), sl23⟩)
    (c23 : PySem.W.codeIn K (.ref cL) "law" = true)
    (k23 : PySem.W.keepIn K (.ref f23) = true)
    (a24 : PySem.W.findIn K (.ref C_Net) "__init__" = some (some (.ref f24)))
    (i24 : PySem.W.isFn K (.ref f24) = true)
    (l24 : K.lookup f24 = some ⟨oc24, od24, .func (PySem.W.fnOf "__init__" "Net.__init__" (defArgs s_Net_init) (defBody s_Net_init) (defScope s_Net_init) .none kV24 dc24 pm24 an24 cd24 ct24), sl24⟩)
    (c24 : PySem.W.codeIn K cd24 "Net.__init__" = true)
    (k24 : PySem.W.keepIn K (.ref f24) = true)
    (a25 : PySem.W.findIn K (.ref C_Office) "__init__" = some (some (.ref f25)))
    (i25 : PySem.W.isFn K (.ref f25) = true)
    (l25 : K.lookup f25 = some ⟨oc25, od25, .func (PySem.W.fnOf "__init__" "Office.__init__" (defArgs s_Office_init) (defBody s_Office_init) (defScope s_Office_init) .none kV25 dc25 pm25 an25 cd25 ct25), sl25⟩)
    (c25 : PySem.W.codeIn K cd25 "Office.__init__" = true)
    (k25 : PySem.W.keepIn K (.ref f25) = true)
    (a26 : PySem.W.findIn K (.ref C_Office) "present_orders" = some (some (.ref p26)))
    (pg26 : PySem.W.specialIn K (.ref p26) "__get__" = some (some (.builtin "property.__get__")))
    (pt26 : PySem.W.takesIn K (.ref p26) = some true)
    (pc26 : PySem.W.recIn K p26 "property" = some (.ref f26 :: pr26))
    (l26 : K.lookup f26 = some ⟨oc26, od26, .func (PySem.W.fnOf "present_orders" "Office.present_orders" (defArgs s_Office_present_orders) (defBody s_Office_present_orders) (defScope s_Office_present_orders) .none kV26 dc26 pm26 an26 cd26 ct26), sl26⟩)
    (c26 : PySem.W.codeIn K cd26 "Office.present_orders" = true)
    (k26 : PySem.W.keepIn K (.ref f26) = true)
    (a27 : PySem.W.findIn K (.ref C_Office) "take_step" = some (some (.ref f27)))
    (i27 : PySem.W.isFn K (.ref f27) = true)
    (l27 : K.lookup f27 = some ⟨oc27, od27, .func (PySem.W.fnOf "take_step" "Office.take_step" (defArgs s_Office_take_step) (defBody s_Office_take_step) (defScope s_Office_take_step) .none kV27 dc27 pm27 an27 cd27 ct27), sl27⟩)
    (c27 : PySem.W.codeIn K cd27 "Office.take_step" = true)
    (k27 : PySem.W.keepIn K (.ref f27) = true)
    (a28 : PySem.W.findIn K (.ref C_Office) "undo" = some (some (.ref f28)))
    (i28 : PySem.W.isFn K (.ref f28) = true)
    (l28 : K.lookup f28 = some ⟨oc28, od28, .func (PySem.W.fnOf "undo" "Office.undo" (defArgs s_Office_undo) (defBody s_Office_undo) (defScope s_Office_undo) .none kV28 dc28 pm28 an28 cd28 ct28), sl28⟩)
    (c28 : PySem.W.codeIn K cd28 "Office.undo" = true)
    (k28 : PySem.W.keepIn K (.ref f28) = true)
    (a29 : PySem.W.findIn K (.ref C_Office) "cancel" = some (some (.ref f29)))
    (i29 : PySem.W.isFn K (.ref f29) = true)
    (l29 : K.lookup f29 = some ⟨oc29, od29, .func (PySem.W.fnOf "cancel" "Office.cancel" (defArgs s_Office_cancel) (defBody s_Office_cancel) (defScope s_Office_cancel) .none kV29 dc29 pm29 an29 cd29 ct29), sl29⟩)
    (c29 : PySem.W.codeIn K cd29 "Office.cancel" = true)
    (k29 : PySem.W.keepIn K (.ref f29) = true)
    (a30 : PySem.W.findIn K (.ref C_Office) "raise_order" = some (some (.ref f30)))
    (i30 : PySem.W.isFn K (.ref f30) = true)
    (l30 : K.lookup f30 = some ⟨oc30, od30, .func (PySem.W.fnOf "raise_order" "Office.raise_order" (defArgs s_Office_raise_order) (defBody s_Office_raise_order) (defScope s_Office_raise_order) .none kV30 dc30 pm30 an30 cd30 ct30), sl30⟩)
    (c30 : PySem.W.codeIn K cd30 "Office.raise_order" = true)
    (k30 : PySem.W.keepIn K (.ref f30) = true)
    (a31 : PySem.W.findIn K (.ref C_Office) "redo" = some (some (.ref f31)))
    (i31 : PySem.W.isFn K (.ref f31) = true)
    (l31 : K.lookup f31 = some ⟨oc31, od31, .func (PySem.W.fnOf "redo" "Office.redo" (defArgs s_Office_redo) (defBody s_Office_redo) (defScope s_Office_redo) .none kV31 dc31 pm31 an31 cd31 ct31), sl31⟩)
    (c31 : PySem.W.codeIn K cd31 "Office.redo" = true)
    (k31 : PySem.W.keepIn K (.ref f31) = true)
    (a32 : PySem.W.findIn K (.ref C_Office) "add" = some (some (.ref f32)))
    (i32 : PySem.W.isFn K (.ref f32) = true)
    (l32 : K.lookup f32 = some ⟨oc32, od32, .func (PySem.W.fnOf "add" "Office.add" (defArgs s_Office_add) (defBody s_Office_add) (defScope s_Office_add) .none kV32 dc32 pm32 an32 cd32 ct32), sl32⟩)
    (c32 : PySem.W.codeIn K cd32 "Office.add" = true)
    (k32 : PySem.W.keepIn K (.ref f32) = true)
    (a33 : PySem.W.findIn K (.ref C_Office) "prolong" = some (some (.ref f33)))
    (i33 : PySem.W.isFn K (.ref f33) = true)
    (l33 : K.lookup f33 = some ⟨oc33, od33, .func (PySem.W.fnOf "prolong" "Office.prolong" (defArgs s_Office_prolong) (defBody s_Office_prolong) (defScope s_Office_prolong) .none kV33 dc33 pm33 an33 cd33 ct33), sl33⟩)
    (c33 : PySem.W.codeIn K cd33 "Office.prolong" = true)
    (k33 : PySem.W.keepIn K (.ref f33) = true)
    (a34 : PySem.W.findIn K (.ref C_Office) "operations" = some (some (.ref p34)))
    (pg34 : PySem.W.specialIn K (.ref p34) "__get__" = some (some (.builtin "property.__get__")))
    (pt34 : PySem.W.takesIn K (.ref p34) = some true)
    (pc34 : PySem.W.recIn K p34 "property" = some (.ref f34 :: pr34))
    (l34 : K.lookup f34 = some ⟨oc34, od34, .func (PySem.W.fnOf "operations" "Office.operations" (defArgs s_Office_operations) (defBody s_Office_operations) (defScope s_Office_operations) .none kV34 dc34 pm34 an34 cd34 ct34), sl34⟩)
    (c34 : PySem.W.codeIn K cd34 "Office.operations" = true)
    (k34 : PySem.W.keepIn K (.ref f34) = true)
    (a35 : PySem.W.findIn K (.ref C_Office) "execute" = some (some (.ref f35)))
    (i35 : PySem.W.isFn K (.ref f35) = true)
    (l35 : K.lookup f35 = some ⟨oc35, od35, .func (PySem.W.fnOf "execute" "Office.execute" (defArgs s_Office_execute) (defBody s_Office_execute) (defScope s_Office_execute) .none kV35 dc35 pm35 an35 cd35 ct35), sl35⟩)
    (c35 : PySem.W.codeIn K cd35 "Office.execute" = true)
    (k35 : PySem.W.keepIn K (.ref f35) = true)
    (a36 : PySem.W.findIn K (.ref C_Office) "batch" = some (some (.ref f36)))
    (i36 : PySem.W.isFn K (.ref f36) = true)
    (l36 : K.lookup f36 = some ⟨oc36, od36, .func (PySem.W.fnOf "batch" "Office.batch" (defArgs s_Office_batch) (defBody s_Office_batch) (defScope s_Office_batch) .none kV36 dc36 pm36 an36 cd36 ct36), sl36⟩)
    (c36 : PySem.W.codeIn K cd36 "Office.batch" = true)
    (k36 : PySem.W.keepIn K (.ref f36) = true)
    (pgNet : PySem.W.plainGet K C_Net Str.empty = true)
    (hdNet : PySem.W.hasDictIn K C_Net = true)
    (poNet : PySem.W.plainOver K C_Net = true)
    (saNet : PySem.W.findIn K (.ref C_Net) "__setattr__" = some (some (.builtin "object.__setattr__")))
    (mkNet : PySem.W.makesIn K C_Net = true)
    (kcNet : PySem.W.keepIn K (.ref C_Net) = true)
    (nNet_period : PySem.W.findIn K (.ref C_Net) "period" = some none)
    (nNet_houses : PySem.W.findIn K (.ref C_Net) "houses" = some none)
    (nNet_orders : PySem.W.findIn K (.ref C_Net) "orders" = some none)
    (nNet_followed : PySem.W.findIn K (.ref C_Net) "followed" = some none)
    (pgOffice : PySem.W.plainGet K C_Office Str.empty = true)
    (hdOffice : PySem.W.hasDictIn K C_Office = true)
    (poOffice : PySem.W.plainOver K C_Office = true)
    (saOffice : PySem.W.findIn K (.ref C_Office) "__setattr__" = some (some (.builtin "object.__setattr__")))
    (mkOffice : PySem.W.makesIn K C_Office = true)
    (kcOffice : PySem.W.keepIn K (.ref C_Office) = true)
    (nOffice_net : PySem.W.findIn K (.ref C_Office) "net" = some none)
    (nOffice_steps : PySem.W.findIn K (.ref C_Office) "steps" = some none)
    (nOffice_effective : PySem.W.findIn K (.ref C_Office) "effective" = some none)
    (nOffice_snapshots : PySem.W.findIn K (.ref C_Office) "snapshots" = some none)
    (vLONGEST_PERIOD : PySem.W.nsIn K mainGlobals "LONGEST_PERIOD" = some (some (.int 30 tkLONGEST_PERIOD)))
    (vMOST_HOUSES : PySem.W.nsIn K mainGlobals "MOST_HOUSES" = some (some (.int 10 tkMOST_HOUSES)))
    (vMOST_ORDERS : PySem.W.nsIn K mainGlobals "MOST_ORDERS" = some (some (.int 20 tkMOST_ORDERS)))
    (vLONGEST_DELAY : PySem.W.nsIn K mainGlobals "LONGEST_DELAY" = some (some (.int 9 tkLONGEST_DELAY)))
    (gd_ARGUMENTS : PySem.W.nsIn K mainGlobals "ARGUMENTS" = some (some (.ref d_ARGUMENTS)))
    (ld_ARGUMENTS : K.lookup d_ARGUMENTS = some ⟨.type "dict", none, .dict es_ARGUMENTS n_ARGUMENTS, #[]⟩)
    (kd_ARGUMENTS : PySem.W.KeysLit w.params es_ARGUMENTS.toList)
    (lo_ARGUMENTS : (d_ARGUMENTS == sysModules) = false)
    (vd_ARGUMENTS_0 : PySem.W.nsIn K d_ARGUMENTS "add" = some (some (.int 1 t_ARGUMENTS_0)))
    (vd_ARGUMENTS_1 : PySem.W.nsIn K d_ARGUMENTS "cancel" = some (some (.int 1 t_ARGUMENTS_1)))
    (vd_ARGUMENTS_2 : PySem.W.nsIn K d_ARGUMENTS "prolong" = some (some (.int 2 t_ARGUMENTS_2)))
    (vd_ARGUMENTS_3 : PySem.W.nsIn K d_ARGUMENTS "raise" = some (some (.int 1 t_ARGUMENTS_3)))
    (vd_ARGUMENTS_4 : PySem.W.nsIn K d_ARGUMENTS "undo" = some (some (.int 0 t_ARGUMENTS_4)))
    (vd_ARGUMENTS_5 : PySem.W.nsIn K d_ARGUMENTS "redo" = some (some (.int 0 t_ARGUMENTS_5)))
    (zlen : PySem.W.nsIn K mainGlobals "len" = some none)
    (zrange : PySem.W.nsIn K mainGlobals "range" = some none)
    (zisinstance : PySem.W.nsIn K mainGlobals "isinstance" = some none)
    (zint : PySem.W.nsIn K mainGlobals "int" = some none)
    (zbool : PySem.W.nsIn K mainGlobals "bool" = some none)
    (zstr : PySem.W.nsIn K mainGlobals "str" = some none)
    (ztuple : PySem.W.nsIn K mainGlobals "tuple" = some none)
    (zlist : PySem.W.nsIn K mainGlobals "list" = some none)
    (zall : PySem.W.nsIn K mainGlobals "all" = some none)
    (zabs : PySem.W.nsIn K mainGlobals "abs" = some none)
    (zenumerate : PySem.W.nsIn K mainGlobals "enumerate" = some none)
    (tl : K.lookup cL = some ⟨ecL, dcL, .fields vsL, slcL⟩)
    (t11 : vsL[11]? = some (.ref PL))
    (tP : K.lookup PL = none)
    (th : PySem.W.codeHdIn K cL PL = true)
    (gEP : PySem.W.nsIn K mainGlobals "PostError" = some (some (.ref CP)))
    (iEP : PySem.W.isClsIn K CP = true)
    (tEP : PySem.W.typeIn K (.ref CP) = some (.type "type"))
    (bEP : PySem.W.subIn K (.ref CP) (.type "BaseException") = some true)
    (zVE : PySem.W.nsIn K mainGlobals "ValueError" = some none)
    (gE0 : PySem.W.nsIn K mainGlobals "InvalidDay" = some (some (.ref E0)))
    (iE0 : PySem.W.isClsIn K E0 = true)
    (tE0 : PySem.W.typeIn K (.ref E0) = some (.type "type"))
    (gE1 : PySem.W.nsIn K mainGlobals "UnknownHouse" = some (some (.ref E1)))
    (iE1 : PySem.W.isClsIn K E1 = true)
    (tE1 : PySem.W.typeIn K (.ref E1) = some (.type "type"))
    (gE2 : PySem.W.nsIn K mainGlobals "UnknownOrder" = some (some (.ref E2)))
    (iE2 : PySem.W.isClsIn K E2 = true)
    (tE2 : PySem.W.typeIn K (.ref E2) = some (.type "type"))
    (gE3 : PySem.W.nsIn K mainGlobals "InvalidLimit" = some (some (.ref E3)))
    (iE3 : PySem.W.isClsIn K E3 = true)
    (tE3 : PySem.W.typeIn K (.ref E3) = some (.type "type"))
    (gE4 : PySem.W.nsIn K mainGlobals "InvalidOrder" = some (some (.ref E4)))
    (iE4 : PySem.W.isClsIn K E4 = true)
    (tE4 : PySem.W.typeIn K (.ref E4) = some (.type "type"))
    (gE5 : PySem.W.nsIn K mainGlobals "TooManyOrders" = some (some (.ref E5)))
    (iE5 : PySem.W.isClsIn K E5 = true)
    (tE5 : PySem.W.typeIn K (.ref E5) = some (.type "type"))
    (gE6 : PySem.W.nsIn K mainGlobals "TooLong" = some (some (.ref E6)))
    (iE6 : PySem.W.isClsIn K E6 = true)
    (tE6 : PySem.W.typeIn K (.ref E6) = some (.type "type"))
    (gE7 : PySem.W.nsIn K mainGlobals "InvalidResult" = some (some (.ref E7)))
    (iE7 : PySem.W.isClsIn K E7 = true)
    (tE7 : PySem.W.typeIn K (.ref E7) = some (.type "type"))
    (gE8 : PySem.W.nsIn K mainGlobals "Contradiction" = some (some (.ref E8)))
    (iE8 : PySem.W.isClsIn K E8 = true)
    (tE8 : PySem.W.typeIn K (.ref E8) = some (.type "type"))
    (gE9 : PySem.W.nsIn K mainGlobals "InvalidName" = some (some (.ref E9)))
    (iE9 : PySem.W.isClsIn K E9 = true)
    (tE9 : PySem.W.typeIn K (.ref E9) = some (.type "type"))
    (gE10 : PySem.W.nsIn K mainGlobals "UnknownName" = some (some (.ref E10)))
    (iE10 : PySem.W.isClsIn K E10 = true)
    (tE10 : PySem.W.typeIn K (.ref E10) = some (.type "type"))
    (gE11 : PySem.W.nsIn K mainGlobals "InvalidNet" = some (some (.ref E11)))
    (iE11 : PySem.W.isClsIn K E11 = true)
    (tE11 : PySem.W.typeIn K (.ref E11) = some (.type "type"))
    (gE12 : PySem.W.nsIn K mainGlobals "TextFault" = some (some (.ref E12)))
    (iE12 : PySem.W.isClsIn K E12 = true)
    (tE12 : PySem.W.typeIn K (.ref E12) = some (.type "type"))
    (gE13 : PySem.W.nsIn K mainGlobals "InvalidCode" = some (some (.ref E13)))
    (iE13 : PySem.W.isClsIn K E13 = true)
    (tE13 : PySem.W.typeIn K (.ref E13) = some (.type "type"))
    (gE14 : PySem.W.nsIn K mainGlobals "InvalidOperation" = some (some (.ref E14)))
    (iE14 : PySem.W.isClsIn K E14 = true)
    (tE14 : PySem.W.typeIn K (.ref E14) = some (.type "type"))
    (heN : PySem.W.specialIn K (.builtin "object.__class__") "__get__" = some (some (.builtin "getset_descriptor.__get__")))
    (heT : PySem.W.takesIn K (.builtin "object.__class__") = some true)
    (sE2_0 : PySem.W.subIn K (.ref E2) (.ref E0) = some false)
    (sE2_1 : PySem.W.subIn K (.ref E2) (.ref E1) = some false)
    (sE2_2 : PySem.W.subIn K (.ref E2) (.ref E2) = some true)
    (sE2_3 : PySem.W.subIn K (.ref E2) (.ref E3) = some false)
    (sE2_4 : PySem.W.subIn K (.ref E2) (.ref E4) = some false)
    (sE2_5 : PySem.W.subIn K (.ref E2) (.ref E5) = some false)
    (sE2_6 : PySem.W.subIn K (.ref E2) (.ref E6) = some false)
    (sE2_7 : PySem.W.subIn K (.ref E2) (.ref E7) = some false)
    (sE2_8 : PySem.W.subIn K (.ref E2) (.ref E8) = some false)
    (sE2_9 : PySem.W.subIn K (.ref E2) (.ref E9) = some false)
    (sE2_10 : PySem.W.subIn K (.ref E2) (.ref E10) = some false)
    (sE2_11 : PySem.W.subIn K (.ref E2) (.ref E11) = some false)
    (sE2_12 : PySem.W.subIn K (.ref E2) (.ref E12) = some false)
    (sE2_13 : PySem.W.subIn K (.ref E2) (.ref E13) = some false)
    (sE2_14 : PySem.W.subIn K (.ref E2) (.ref E14) = some false)
    (sE2_P : PySem.W.subIn K (.ref E2) (.ref CP) = some true)
    (bE2 : PySem.W.subIn K (.ref E2) (.type "BaseException") = some true)
    (vE2 : PySem.W.subIn K (.ref E2) (.type "ValueError") = some true)
    (kE2 : PySem.W.keepIn K (.ref E2) = true)
    (h1E2 : PySem.W.findIn K (.ref E2) "__getattribute__" = some (some (.builtin "BaseException.__getattribute__")))
    (h2E2 : PySem.W.findIn K (.ref E2) "__getattr__" = some none)
    (h3E2 : PySem.W.hasDictIn K E2 = true)
    (h4E2 : PySem.W.findIn K (.ref E2) "__class__" = some (some (.builtin "object.__class__")))
    (h5E2 : PySem.W.mroIn K E2 (.type "object") = some true)
    (xE2 : PySem.W.excIn K E2 [.type "ValueError", .type "Exception", .type "BaseException", .type "object"] "ValueError.__new__" = true)
    (sE4_0 : PySem.W.subIn K (.ref E4) (.ref E0) = some false)
    (sE4_1 : PySem.W.subIn K (.ref E4) (.ref E1) = some false)
    (sE4_2 : PySem.W.subIn K (.ref E4) (.ref E2) = some false)
    (sE4_3 : PySem.W.subIn K (.ref E4) (.ref E3) = some false)
    (sE4_4 : PySem.W.subIn K (.ref E4) (.ref E4) = some true)
    (sE4_5 : PySem.W.subIn K (.ref E4) (.ref E5) = some false)
    (sE4_6 : PySem.W.subIn K (.ref E4) (.ref E6) = some false)
    (sE4_7 : PySem.W.subIn K (.ref E4) (.ref E7) = some false)
    (sE4_8 : PySem.W.subIn K (.ref E4) (.ref E8) = some false)
    (sE4_9 : PySem.W.subIn K (.ref E4) (.ref E9) = some false)
    (sE4_10 : PySem.W.subIn K (.ref E4) (.ref E10) = some false)
    (sE4_11 : PySem.W.subIn K (.ref E4) (.ref E11) = some false)
    (sE4_12 : PySem.W.subIn K (.ref E4) (.ref E12) = some false)
    (sE4_13 : PySem.W.subIn K (.ref E4) (.ref E13) = some false)
    (sE4_14 : PySem.W.subIn K (.ref E4) (.ref E14) = some false)
    (sE4_P : PySem.W.subIn K (.ref E4) (.ref CP) = some true)
    (bE4 : PySem.W.subIn K (.ref E4) (.type "BaseException") = some true)
    (vE4 : PySem.W.subIn K (.ref E4) (.type "ValueError") = some true)
    (kE4 : PySem.W.keepIn K (.ref E4) = true)
    (h1E4 : PySem.W.findIn K (.ref E4) "__getattribute__" = some (some (.builtin "BaseException.__getattribute__")))
    (h2E4 : PySem.W.findIn K (.ref E4) "__getattr__" = some none)
    (h3E4 : PySem.W.hasDictIn K E4 = true)
    (h4E4 : PySem.W.findIn K (.ref E4) "__class__" = some (some (.builtin "object.__class__")))
    (h5E4 : PySem.W.mroIn K E4 (.type "object") = some true)
    (xE4 : PySem.W.excIn K E4 [.type "ValueError", .type "Exception", .type "BaseException", .type "object"] "ValueError.__new__" = true)
    (sE5_0 : PySem.W.subIn K (.ref E5) (.ref E0) = some false)
    (sE5_1 : PySem.W.subIn K (.ref E5) (.ref E1) = some false)
    (sE5_2 : PySem.W.subIn K (.ref E5) (.ref E2) = some false)
    (sE5_3 : PySem.W.subIn K (.ref E5) (.ref E3) = some false)
    (sE5_4 : PySem.W.subIn K (.ref E5) (.ref E4) = some false)
    (sE5_5 : PySem.W.subIn K (.ref E5) (.ref E5) = some true)
    (sE5_6 : PySem.W.subIn K (.ref E5) (.ref E6) = some false)
    (sE5_7 : PySem.W.subIn K (.ref E5) (.ref E7) = some false)
    (sE5_8 : PySem.W.subIn K (.ref E5) (.ref E8) = some false)
    (sE5_9 : PySem.W.subIn K (.ref E5) (.ref E9) = some false)
    (sE5_10 : PySem.W.subIn K (.ref E5) (.ref E10) = some false)
    (sE5_11 : PySem.W.subIn K (.ref E5) (.ref E11) = some false)
    (sE5_12 : PySem.W.subIn K (.ref E5) (.ref E12) = some false)
    (sE5_13 : PySem.W.subIn K (.ref E5) (.ref E13) = some false)
    (sE5_14 : PySem.W.subIn K (.ref E5) (.ref E14) = some false)
    (sE5_P : PySem.W.subIn K (.ref E5) (.ref CP) = some true)
    (bE5 : PySem.W.subIn K (.ref E5) (.type "BaseException") = some true)
    (vE5 : PySem.W.subIn K (.ref E5) (.type "ValueError") = some true)
    (kE5 : PySem.W.keepIn K (.ref E5) = true)
    (h1E5 : PySem.W.findIn K (.ref E5) "__getattribute__" = some (some (.builtin "BaseException.__getattribute__")))
    (h2E5 : PySem.W.findIn K (.ref E5) "__getattr__" = some none)
    (h3E5 : PySem.W.hasDictIn K E5 = true)
    (h4E5 : PySem.W.findIn K (.ref E5) "__class__" = some (some (.builtin "object.__class__")))
    (h5E5 : PySem.W.mroIn K E5 (.type "object") = some true)
    (xE5 : PySem.W.excIn K E5 [.type "ValueError", .type "Exception", .type "BaseException", .type "object"] "ValueError.__new__" = true)
    : LamX.LawAtS l w K CX0 9 63 "_law_script" mg fa h := by
  have e := hfa.symm.trans (PySem.W.mg_of X G a23)
  cases e
  have G_Net := PySem.W.mg_of X G aCNet
  have T_Net : NetT K C_Net := ⟨⟨pgNet, hdNet, poNet, saNet⟩, nNet_period, nNet_houses, nNet_orders, nNet_followed⟩
  have G_Office := PySem.W.mg_of X G aCOffice
  have T_Office : OffT K C_Office := ⟨⟨pgOffice, hdOffice, poOffice, saOffice⟩, nOffice_net, nOffice_steps, nOffice_effective, nOffice_snapshots⟩
  have K_LONGEST_PERIOD : ∃ t, mg "LONGEST_PERIOD" = some (.int 30 t) := ⟨_, PySem.W.mg_of X G vLONGEST_PERIOD⟩
  have K_MOST_HOUSES : ∃ t, mg "MOST_HOUSES" = some (.int 10 t) := ⟨_, PySem.W.mg_of X G vMOST_HOUSES⟩
  have K_MOST_ORDERS : ∃ t, mg "MOST_ORDERS" = some (.int 20 t) := ⟨_, PySem.W.mg_of X G vMOST_ORDERS⟩
  have K_LONGEST_DELAY : ∃ t, mg "LONGEST_DELAY" = some (.int 9 t) := ⟨_, PySem.W.mg_of X G vLONGEST_DELAY⟩
  have A_ARGUMENTS : DctA K w mg "ARGUMENTS" ([("add", 1), ("cancel", 1), ("prolong", 2), ("raise", 1), ("undo", 0), ("redo", 0)] : List (Str × Int)) := .mk' (PySem.W.mg_of X G gd_ARGUMENTS) ld_ARGUMENTS kd_ARGUMENTS lo_ARGUMENTS fun p hp => by
    simp only [List.mem_cons, List.not_mem_nil, or_false] at hp
    rcases hp with rfl | rfl | rfl | rfl | rfl | rfl
    · exact ⟨_, vd_ARGUMENTS_0⟩
    · exact ⟨_, vd_ARGUMENTS_1⟩
    · exact ⟨_, vd_ARGUMENTS_2⟩
    · exact ⟨_, vd_ARGUMENTS_3⟩
    · exact ⟨_, vd_ARGUMENTS_4⟩
    · exact ⟨_, vd_ARGUMENTS_5⟩
  have B : Blt mg := ⟨PySem.W.mg_none_of X G zlen, PySem.W.mg_none_of X G zrange, PySem.W.mg_none_of X G zisinstance, PySem.W.mg_none_of X G zint, PySem.W.mg_none_of X G zbool, PySem.W.mg_none_of X G zstr, PySem.W.mg_none_of X G ztuple, PySem.W.mg_none_of X G zlist, PySem.W.mg_none_of X G zall, PySem.W.mg_none_of X G zabs, PySem.W.mg_none_of X G zenumerate⟩
  let cE : Nat → Addr := fun j => ([E0, E1, E2, E3, E4, E5, E6, E7, E8, E9, E10, E11, E12, E13, E14] : List Addr).getD j 0
  have ME : ErrM mg CP cE := ⟨PySem.W.mg_of X G gEP, PySem.W.mg_of X G gE0, PySem.W.mg_of X G gE1, PySem.W.mg_of X G gE2, PySem.W.mg_of X G gE3, PySem.W.mg_of X G gE4, PySem.W.mg_of X G gE5, PySem.W.mg_of X G gE6, PySem.W.mg_of X G gE7, PySem.W.mg_of X G gE8, PySem.W.mg_of X G gE9, PySem.W.mg_of X G gE10, PySem.W.mg_of X G gE11, PySem.W.mg_of X G gE12, PySem.W.mg_of X G gE13, PySem.W.mg_of X G gE14, PySem.W.mg_none_of X G zVE⟩
  have X_UnknownOrder : Err15 K CP cE E2 2 := err15_mk (by decide) ⟨h1E2, h2E2, bE2, h3E2, h4E2, heN, heT, h5E2⟩ (exm_mk bEP iEP tEP sE2_P) vE2 rfl fun j hj => match j, hj with
    | 0, _ => ⟨iE0, tE0, sE2_0⟩
    | 1, _ => ⟨iE1, tE1, sE2_1⟩
    | 2, _ => ⟨iE2, tE2, sE2_2⟩
    | 3, _ => ⟨iE3, tE3, sE2_3⟩
    | 4, _ => ⟨iE4, tE4, sE2_4⟩
    | 5, _ => ⟨iE5, tE5, sE2_5⟩
    | 6, _ => ⟨iE6, tE6, sE2_6⟩
    | 7, _ => ⟨iE7, tE7, sE2_7⟩
    | 8, _ => ⟨iE8, tE8, sE2_8⟩
    | 9, _ => ⟨iE9, tE9, sE2_9⟩
    | 10, _ => ⟨iE10, tE10, sE2_10⟩
    | 11, _ => ⟨iE11, tE11, sE2_11⟩
    | 12, _ => ⟨iE12, tE12, sE2_12⟩
    | 13, _ => ⟨iE13, tE13, sE2_13⟩
    | 14, _ => ⟨iE14, tE14, sE2_14⟩
    | j + 15, h => absurd h (by omega)
  have R_UnknownOrder : ErrR K mg "UnknownOrder" E2 := ⟨PySem.W.mg_of X G gE2, xE2, kE2, bE2, tE2⟩
  have X_InvalidOrder : Err15 K CP cE E4 4 := err15_mk (by decide) ⟨h1E4, h2E4, bE4, h3E4, h4E4, heN, heT, h5E4⟩ (exm_mk bEP iEP tEP sE4_P) vE4 rfl fun j hj => match j, hj with
    | 0, _ => ⟨iE0, tE0, sE4_0⟩
    | 1, _ => ⟨iE1, tE1, sE4_1⟩
    | 2, _ => ⟨iE2, tE2, sE4_2⟩
    | 3, _ => ⟨iE3, tE3, sE4_3⟩
    | 4, _ => ⟨iE4, tE4, sE4_4⟩
    | 5, _ => ⟨iE5, tE5, sE4_5⟩
    | 6, _ => ⟨iE6, tE6, sE4_6⟩
    | 7, _ => ⟨iE7, tE7, sE4_7⟩
    | 8, _ => ⟨iE8, tE8, sE4_8⟩
    | 9, _ => ⟨iE9, tE9, sE4_9⟩
    | 10, _ => ⟨iE10, tE10, sE4_10⟩
    | 11, _ => ⟨iE11, tE11, sE4_11⟩
    | 12, _ => ⟨iE12, tE12, sE4_12⟩
    | 13, _ => ⟨iE13, tE13, sE4_13⟩
    | 14, _ => ⟨iE14, tE14, sE4_14⟩
    | j + 15, h => absurd h (by omega)
  have R_InvalidOrder : ErrR K mg "InvalidOrder" E4 := ⟨PySem.W.mg_of X G gE4, xE4, kE4, bE4, tE4⟩
  have X_TooManyOrders : Err15 K CP cE E5 5 := err15_mk (by decide) ⟨h1E5, h2E5, bE5, h3E5, h4E5, heN, heT, h5E5⟩ (exm_mk bEP iEP tEP sE5_P) vE5 rfl fun j hj => match j, hj with
    | 0, _ => ⟨iE0, tE0, sE5_0⟩
    | 1, _ => ⟨iE1, tE1, sE5_1⟩
    | 2, _ => ⟨iE2, tE2, sE5_2⟩
    | 3, _ => ⟨iE3, tE3, sE5_3⟩
    | 4, _ => ⟨iE4, tE4, sE5_4⟩
    | 5, _ => ⟨iE5, tE5, sE5_5⟩
    | 6, _ => ⟨iE6, tE6, sE5_6⟩
    | 7, _ => ⟨iE7, tE7, sE5_7⟩
    | 8, _ => ⟨iE8, tE8, sE5_8⟩
    | 9, _ => ⟨iE9, tE9, sE5_9⟩
    | 10, _ => ⟨iE10, tE10, sE5_10⟩
    | 11, _ => ⟨iE11, tE11, sE5_11⟩
    | 12, _ => ⟨iE12, tE12, sE5_12⟩
    | 13, _ => ⟨iE13, tE13, sE5_13⟩
    | 14, _ => ⟨iE14, tE14, sE5_14⟩
    | j + 15, h => absurd h (by omega)
  have R_TooManyOrders : ErrR K mg "TooManyOrders" E5 := ⟨PySem.W.mg_of X G gE5, xE5, kE5, bE5, tE5⟩
  have G_is_integer := PySem.W.mg_of X G a1
  have F_is_integer := fun_mk (st := s_is_integer) l1 c1 k1
  have B_is_integer := F_is_integer.binds (ps := P_is_integer) fun _ _ _ _ _ _ us hl => match us, hl with | [_], _ => rfl
  have G_is_within := PySem.W.mg_of X G a2
  have F_is_within := fun_mk (st := s_is_within) l2 c2 k2
  have B_is_within := F_is_within.binds (ps := P_is_within) fun _ _ _ _ _ _ us hl => match us, hl with | [_, _, _], _ => rfl
  have G_is_order := PySem.W.mg_of X G a3
  have F_is_order := fun_mk (st := s_is_order) l3 c3 k3
  have B_is_order := F_is_order.binds (ps := P_is_order) fun _ _ _ _ _ _ us hl => match us, hl with | [_, _, _], _ => rfl
  have G_check_orders := PySem.W.mg_of X G a4
  have F_check_orders := fun_mk (st := s_check_orders) l4 c4 k4
  have B_check_orders := F_check_orders.binds (ps := P_check_orders) fun _ _ _ _ _ _ us hl => match us, hl with | [_, _, _], _ => rfl
  have G_find_followed := PySem.W.mg_of X G a5
  have F_find_followed := fun_mk (st := s_find_followed) l5 c5 k5
  have B_find_followed := F_find_followed.binds (ps := P_find_followed) fun _ _ _ _ _ _ us hl => match us, hl with | [_, _, _], _ => rfl
  have G_l_random := PySem.W.mg_of X G a6
  have F_l_random := fun_mk (st := s_l_random) l6 c6 k6
  have B_l_random := F_l_random.binds (ps := P_l_random) fun _ _ _ _ _ _ us hl => match us, hl with | [_, _], _ => rfl
  have G_l_below := PySem.W.mg_of X G a7
  have F_l_below := fun_mk (st := s_l_below) l7 c7 k7
  have B_l_below := F_l_below.binds (ps := P_l_below) fun _ _ _ _ _ _ us hl => match us, hl with | [_, _], _ => rfl
  have G_l_order := PySem.W.mg_of X G a8
  have F_l_order := fun_mk (st := s_l_order) l8 c8 k8
  have B_l_order := F_l_order.binds (ps := P_l_order) fun _ _ _ _ _ _ us hl => match us, hl with | [_, _, _], _ => rfl
  have G_l_small := PySem.W.mg_of X G a9
  have F_l_small := fun_mk (st := s_l_small) l9 c9 k9
  have B_l_small := F_l_small.binds (ps := P_l_small) fun _ _ _ _ _ _ us hl => match us, hl with | [_], _ => rfl
  have G_l_net := PySem.W.mg_of X G a10
  have F_l_net := fun_mk (st := s_l_net) l10 c10 k10
  have B_l_net := F_l_net.binds (ps := P_l_net) fun _ _ _ _ _ _ us hl => match us, hl with | [_], _ => rfl
  have G_l_equal := PySem.W.mg_of X G a11
  have F_l_equal := fun_mk (st := s_l_equal) l11 c11 k11
  have B_l_equal := F_l_equal.binds (ps := P_l_equal) fun _ _ _ _ _ _ us hl => match us, hl with | [_, _], _ => rfl
  have G_without_order := PySem.W.mg_of X G a12
  have F_without_order := fun_mk (st := s_without_order) l12 c12 k12
  have B_without_order := F_without_order.binds (ps := P_without_order) fun _ _ _ _ _ _ us hl => match us, hl with | [_, _], _ => rfl
  have G_check_index := PySem.W.mg_of X G a13
  have F_check_index := fun_mk (st := s_check_index) l13 c13 k13
  have B_check_index := F_check_index.binds (ps := P_check_index) fun _ _ _ _ _ _ us hl => match us, hl with | [_, _], _ => rfl
  have G_with_order := PySem.W.mg_of X G a14
  have F_with_order := fun_mk (st := s_with_order) l14 c14 k14
  have B_with_order := F_with_order.binds (ps := P_with_order) fun _ _ _ _ _ _ us hl => match us, hl with | [_, _, _], _ => rfl
  have G_l_start := PySem.W.mg_of X G a15
  have F_l_start := fun_mk (st := s_l_start) l15 c15 k15
  have B_l_start := F_l_start.binds (ps := P_l_start) fun _ _ _ _ _ _ us hl => match us, hl with | [_], _ => rfl
  have G_l_operation := PySem.W.mg_of X G a16
  have F_l_operation := fun_mk (st := s_l_operation) l16 c16 k16
  have B_l_operation := F_l_operation.binds (ps := P_l_operation) fun _ _ _ _ _ _ us hl => match us, hl with | [_, _], _ => rfl
  have G_l_changed := PySem.W.mg_of X G a17
  have F_l_changed := fun_mk (st := s_l_changed) l17 c17 k17
  have B_l_changed := F_l_changed.binds (ps := P_l_changed) fun _ _ _ _ _ _ us hl => match us, hl with | [_, _, _], _ => rfl
  have G_l_worked := PySem.W.mg_of X G a18
  have F_l_worked := fun_mk (st := s_l_worked) l18 c18 k18
  have B_l_worked := F_l_worked.binds (ps := P_l_worked) fun _ _ _ _ _ _ us hl => match us, hl with | [_, _], _ => rfl
  have G_l_stands := PySem.W.mg_of X G a19
  have F_l_stands := fun_mk (st := s_l_stands) l19 c19 k19
  have B_l_stands := F_l_stands.binds (ps := P_l_stands) fun _ _ _ _ _ _ us hl => match us, hl with | [_, _], _ => rfl
  have G_l_error_of := PySem.W.mg_of X G a20
  have F_l_error_of := fun_mk (st := s_l_error_of) l20 c20 k20
  have B_l_error_of := F_l_error_of.binds (ps := P_l_error_of) fun _ _ _ _ _ _ us hl => match us, hl with | [_], _ => rfl
  have G_is_operation := PySem.W.mg_of X G a21
  have F_is_operation := fun_mk (st := s_is_operation) l21 c21 k21
  have B_is_operation := F_is_operation.binds (ps := P_is_operation) fun _ _ _ _ _ _ us hl => match us, hl with | [_], _ => rfl
  have G_check_operations := PySem.W.mg_of X G a22
  have F_check_operations := fun_mk (st := s_check_operations) l22 c22 k22
  have B_check_operations := F_check_operations.binds (ps := P_check_operations) fun _ _ _ _ _ _ us hl => match us, hl with | [_], _ => rfl
  have G_law := PySem.W.mg_of X G a23
  have F_law : FunC K "law" "law" s_law fa _ cL := ⟨_, _, _, _, _, _, _, _, rfl, l23, c23⟩
  have F_Net_init := fun_mk (st := s_Net_init) l24 c24 k24
  have B_Net_init := F_Net_init.binds (ps := P_Net_init) fun _ _ _ _ _ _ us hl => match us, hl with | [_, _, _, _], _ => rfl
  have M_Net_init : Mk K C_Net f24 := ⟨mkNet, a24, i24, kcNet⟩
  have F_Office_init := fun_mk (st := s_Office_init) l25 c25 k25
  have B_Office_init := F_Office_init.binds (ps := P_Office_init) fun _ _ _ _ _ _ us hl => match us, hl with | [_, _], _ => rfl
  have M_Office_init : Mk K C_Office f25 := ⟨mkOffice, a25, i25, kcOffice⟩
  have F_Office_present_orders := fun_mk (st := s_Office_present_orders) l26 c26 k26
  have B_Office_present_orders := F_Office_present_orders.binds (ps := P_Office_present_orders) fun _ _ _ _ _ _ us hl => match us, hl with | [_], _ => rfl
  have M_Office_present_orders : PropOf K C_Office "present_orders" p26 f26 := ⟨a26, pg26, pt26, _, pc26⟩
  have F_Office_take_step := fun_mk (st := s_Office_take_step) l27 c27 k27
  have B_Office_take_step := F_Office_take_step.binds (ps := P_Office_take_step) fun _ _ _ _ _ _ us hl => match us, hl with | [_, _, _], _ => rfl
  have M_Office_take_step : Meth K C_Office "take_step" f27 := ⟨a27, i27, k27⟩
  have F_Office_undo := fun_mk (st := s_Office_undo) l28 c28 k28
  have B_Office_undo := F_Office_undo.binds (ps := P_Office_undo) fun _ _ _ _ _ _ us hl => match us, hl with | [_], _ => rfl
  have M_Office_undo : Meth K C_Office "undo" f28 := ⟨a28, i28, k28⟩
  have F_Office_cancel := fun_mk (st := s_Office_cancel) l29 c29 k29
  have B_Office_cancel := F_Office_cancel.binds (ps := P_Office_cancel) fun _ _ _ _ _ _ us hl => match us, hl with | [_, _], _ => rfl
  have M_Office_cancel : Meth K C_Office "cancel" f29 := ⟨a29, i29, k29⟩
  have F_Office_raise_order := fun_mk (st := s_Office_raise_order) l30 c30 k30
  have B_Office_raise_order := F_Office_raise_order.binds (ps := P_Office_raise_order) fun _ _ _ _ _ _ us hl => match us, hl with | [_, _], _ => rfl
  have M_Office_raise_order : Meth K C_Office "raise_order" f30 := ⟨a30, i30, k30⟩
  have F_Office_redo := fun_mk (st := s_Office_redo) l31 c31 k31
  have B_Office_redo := F_Office_redo.binds (ps := P_Office_redo) fun _ _ _ _ _ _ us hl => match us, hl with | [_], _ => rfl
  have M_Office_redo : Meth K C_Office "redo" f31 := ⟨a31, i31, k31⟩
  have F_Office_add := fun_mk (st := s_Office_add) l32 c32 k32
  have B_Office_add := F_Office_add.binds (ps := P_Office_add) fun _ _ _ _ _ _ us hl => match us, hl with | [_, _], _ => rfl
  have M_Office_add : Meth K C_Office "add" f32 := ⟨a32, i32, k32⟩
  have F_Office_prolong := fun_mk (st := s_Office_prolong) l33 c33 k33
  have B_Office_prolong := F_Office_prolong.binds (ps := P_Office_prolong) fun _ _ _ _ _ _ us hl => match us, hl with | [_, _, _], _ => rfl
  have M_Office_prolong : Meth K C_Office "prolong" f33 := ⟨a33, i33, k33⟩
  have F_Office_operations := fun_mk (st := s_Office_operations) l34 c34 k34
  have B_Office_operations := F_Office_operations.binds (ps := P_Office_operations) fun _ _ _ _ _ _ us hl => match us, hl with | [_], _ => rfl
  have M_Office_operations : PropOf K C_Office "operations" p34 f34 := ⟨a34, pg34, pt34, _, pc34⟩
  have F_Office_execute := fun_mk (st := s_Office_execute) l35 c35 k35
  have B_Office_execute := F_Office_execute.binds (ps := P_Office_execute) fun _ _ _ _ _ _ us hl => match us, hl with | [_, _], _ => rfl
  have M_Office_execute : Meth K C_Office "execute" f35 := ⟨a35, i35, k35⟩
  have F_Office_batch := fun_mk (st := s_Office_batch) l36 c36 k36
  have B_Office_batch := F_Office_batch.binds (ps := P_Office_batch) fun _ _ _ _ _ _ us hl => match us, hl with | [_, _], _ => rfl
  have M_Office_batch : Meth K C_Office "batch" f36 := ⟨a36, i36, k36⟩
  refine ⟨PySem.W.fnOf "law" "law" (defArgs s_law) (defBody s_law) (defScope s_law) .none kV23 dc23 pm23 an23 (.ref cL) ct23, [(cL, PL)], spLawT K PL, fun p hp => ?_, fun p hp => ?_, fun p hp => ?_, fun s v => .of_eq rfl, fun H a ns hl _ hT hS => ⟨a, ns, rfl, hS, hl, hT _ List.mem_cons_self, fun _ => rfl⟩, fun base _ _ hTB => ?_⟩
  · rw [List.mem_singleton.mp hp]
    exact own cL PL _ _ _ _ _ _ l23 rfl rfl tl t11
  · rw [List.mem_singleton.mp hp]
    exact tP
  · rw [List.mem_singleton.mp hp]
    exact PySem.W.codeHd_of_K X th
  have TBl := hTB (cL, PL) List.mem_cons_self
  have D_isint : Df l.prog w K mg base "is_integer" 1 P_is_integer (spIsInt K) := ⟨_, _, G_is_integer, F_is_integer.kp, B_is_integer, ok_isint F_is_integer B⟩
  have D_within : Df l.prog w K mg base "is_within" 2 P_is_within (spWithin K) := ⟨_, _, G_is_within, F_is_within.kp, B_is_within, ok_within F_is_within D_isint⟩
  have D_order : Df l.prog w K mg base "is_order" 3 P_is_order (spIsOrder K) := ⟨_, _, G_is_order, F_is_order.kp, B_is_order, ok_is_order F_is_order B D_within K_LONGEST_DELAY⟩
  have D_chk : Df l.prog w K mg base "check_orders" 4 P_check_orders spChkOrders := ⟨_, _, G_check_orders, F_check_orders.kp, B_check_orders, ok_chk_orders F_check_orders B D_order K_MOST_ORDERS⟩
  have D_fol : Df l.prog w K mg base "find_followed" 2 P_find_followed spFollowed := ⟨_, _, G_find_followed, F_find_followed.kp, B_find_followed, ok_followed F_find_followed B⟩
  have D_rnd : Df l.prog w K mg base "_law_random" 2 P_l_random (spRandom K) := ⟨_, _, G_l_random, F_l_random.kp, B_l_random, ok_random F_l_random B⟩
  have D_bel : Df l.prog w K mg base "_law_below" 2 P_l_below spBelow := ⟨_, _, G_l_below, F_l_below.kp, B_l_below, ok_below F_l_below B.len⟩
  have D_ord : Df l.prog w K mg base "_law_order" 3 P_l_order spOrder := ⟨_, _, G_l_order, F_l_order.kp, B_l_order, ok_order F_l_order D_bel⟩
  have D_sml : Df l.prog w K mg base "_law_small" 4 P_l_small spSmall := ⟨_, _, G_l_small, F_l_small.kp, B_l_small, ok_small F_l_small B D_bel D_ord⟩
  have O_init : FnOk l.prog w K mg base CX0 5 _ _ P_Net_init (spInit C_Net) := ok_init F_Net_init T_Net D_within D_chk D_fol K_LONGEST_PERIOD K_MOST_HOUSES
  have D_net : Df l.prog w K mg base "_law_net" 7 P_l_net (spNet C_Net) := ⟨_, _, G_l_net, F_l_net.kp, B_l_net, ok_net F_l_net M_Net_init G_Net O_init B_Net_init⟩
  have D_eq : ∀ n, Df l.prog w K mg base "_law_equal" (n + 2) P_l_equal (spEqual n) := fun n => ⟨_, _, G_l_equal, F_l_equal.kp, B_l_equal, (ok_equal F_l_equal B G_l_equal B_l_equal n).mono (by omega)⟩
  have D_wo : Df l.prog w K mg base "without_order" 1 P_without_order spWo := ⟨_, _, G_without_order, F_without_order.kp, B_without_order, ok_wo F_without_order⟩
  have D_ci : Df l.prog w K mg base "check_index" 3 P_check_index spChkIx := ⟨_, _, G_check_index, F_check_index.kp, B_check_index, ok_chk_ix F_check_index B D_within⟩
  have O_oi : FnOk l.prog w K mg base CX0 1 _ _ P_Office_init (spOInit C_Office C_Net) := ok_off_init F_Office_init T_Office
  have O_po : FnOk l.prog w K mg base CX0 1 _ _ P_Office_present_orders (spPres C_Office C_Net) := ok_pres F_Office_present_orders T_Office T_Net
  have O_ts : FnOk l.prog w K mg base CX0 1 _ _ P_Office_take_step (spTake C_Office C_Net) := ok_take F_Office_take_step T_Office
  have O_un : FnOk l.prog w K mg base CX0 1 _ _ P_Office_undo (spUndo C_Office C_Net) := ok_undo F_Office_undo T_Office
  have O_oc : FnOk l.prog w K mg base CX0 4 _ _ P_Office_cancel (spCancel C_Office C_Net) := ok_cancel F_Office_cancel T_Office M_Office_present_orders O_po B_Office_present_orders M_Office_take_step O_ts B_Office_take_step D_ci D_wo
  have O_ra : FnOk l.prog w K mg base CX0 4 _ _ P_Office_raise_order (spRaise C_Office C_Net) := ok_raise F_Office_raise_order T_Office M_Office_present_orders O_po B_Office_present_orders M_Office_take_step O_ts B_Office_take_step D_ci D_wo
  have D_wi : Df l.prog w K mg base "with_order" 1 P_with_order spWith := ⟨_, _, G_with_order, F_with_order.kp, B_with_order, ok_with F_with_order⟩
  have O_rd : FnOk l.prog w K mg base CX0 1 _ _ P_Office_redo (spRedo C_Office C_Net) := ok_redo F_Office_redo B T_Office
  have O_ad : FnOk l.prog w K mg base CX0 4 _ _ P_Office_add (spAdd C_Office C_Net) := ok_add F_Office_add B T_Office T_Net M_Office_present_orders O_po B_Office_present_orders M_Office_take_step O_ts B_Office_take_step D_order K_MOST_ORDERS
  have O_pg : FnOk l.prog w K mg base CX0 4 _ _ P_Office_prolong (spProlong C_Office C_Net) := ok_prolong F_Office_prolong B T_Office T_Net M_Office_present_orders O_po B_Office_present_orders M_Office_take_step O_ts B_Office_take_step D_ci D_order D_wi
  have O_op : FnOk l.prog w K mg base CX0 1 _ _ P_Office_operations (spOps C_Office C_Net) := ok_ops F_Office_operations B T_Office
  have O_ex : FnOk l.prog w K mg base CX0 5 _ _ P_Office_execute (spExec C_Office C_Net) := ok_exec F_Office_execute T_Office M_Office_add O_ad B_Office_add M_Office_cancel O_oc B_Office_cancel M_Office_prolong O_pg B_Office_prolong M_Office_raise_order O_ra B_Office_raise_order M_Office_undo O_un B_Office_undo M_Office_redo O_rd B_Office_redo
  have D_st : Df l.prog w K mg base "_law_start" 5 P_l_start spStart := ⟨_, _, G_l_start, F_l_start.kp, B_l_start, ok_start F_l_start D_bel D_sml⟩
  have D_opn : Df l.prog w K mg base "_law_operation" 4 P_l_operation spOperation := ⟨_, _, G_l_operation, F_l_operation.kp, B_l_operation, ok_operation F_l_operation B D_bel D_ord⟩
  have D_chg : Df l.prog w K mg base "_law_changed" 1 P_l_changed spChanged := ⟨_, _, G_l_changed, F_l_changed.kp, B_l_changed, ok_changed F_l_changed B⟩
  have D_wk : Df l.prog w K mg base "_law_worked" 2 P_l_worked spWorkedN := ⟨_, _, G_l_worked, F_l_worked.kp, B_l_worked, ok_workedN F_l_worked B D_chg⟩
  have D_std : Df l.prog w K mg base "_law_stands" 6 P_l_stands (spStands C_Office C_Net) := ⟨_, _, G_l_stands, F_l_stands.kp, B_l_stands, ok_stands F_l_stands T_Office D_eq M_Office_present_orders O_po B_Office_present_orders M_Office_operations O_op B_Office_operations⟩
  have O_un2 : FnOk l.prog w K mg base CX0 1 _ _ P_Office_undo (spStep C_Office C_Net .undo) := O_un.imp fun _ _ _ _ h => undo_step h
  have O_rd2 : FnOk l.prog w K mg base CX0 1 _ _ P_Office_redo (spStep C_Office C_Net .redo) := O_rd.imp fun _ _ _ _ h => redo_step h
  have O_ix0 : FnOk l.prog w K mg base CX0 3 _ _ P_check_index spChkIx := ok_chk_ix F_check_index B D_within
  have O_ixN : FnOk l.prog w K mg base (L2N.CX l.prog w) 3 _ _ P_check_index (spChkIxX E2) := ok_chk_ixN F_check_index B R_UnknownOrder D_within
  have O_adN : FnOk l.prog w K mg base (L2N.CX l.prog w) 4 _ _ P_Office_add (spAddX C_Office C_Net E4 E5) := ok_addN F_Office_add B T_Office T_Net R_InvalidOrder R_TooManyOrders M_Office_present_orders O_po B_Office_present_orders D_order K_MOST_ORDERS
  have O_ocN : FnOk l.prog w K mg base (L2N.CX l.prog w) 4 _ _ P_Office_cancel (spIxX C_Office C_Net E2) := ok_cancelN F_Office_cancel T_Office M_Office_present_orders O_po B_Office_present_orders G_check_index F_check_index.kp B_check_index O_ixN
  have O_raN : FnOk l.prog w K mg base (L2N.CX l.prog w) 4 _ _ P_Office_raise_order (spIxX C_Office C_Net E2) := ok_raiseN F_Office_raise_order T_Office M_Office_present_orders O_po B_Office_present_orders G_check_index F_check_index.kp B_check_index O_ixN
  have O_pgN : FnOk l.prog w K mg base (L2N.CX l.prog w) 4 _ _ P_Office_prolong (spProlongX C_Office C_Net E2 E4) := ok_prolongN F_Office_prolong T_Office T_Net R_InvalidOrder M_Office_present_orders O_po B_Office_present_orders G_check_index F_check_index.kp B_check_index O_ix0 O_ixN D_order
  have O_exN : FnOk l.prog w K mg base (L2N.CX l.prog w) 5 _ _ P_Office_execute (spDoX C_Office C_Net cE) := ok_execN F_Office_execute T_Office M_Office_add O_adN B_Office_add M_Office_cancel O_ocN B_Office_cancel M_Office_prolong O_pgN B_Office_prolong M_Office_raise_order O_raN B_Office_raise_order
  have D_io : Df l.prog w K mg base "is_operation" 1 P_is_operation spIsOpn := ⟨_, _, G_is_operation, F_is_operation.kp, B_is_operation, ok_is_opn F_is_operation B A_ARGUMENTS⟩
  have D_ioG : Df l.prog w K mg base "is_operation" 1 P_is_operation spIsOpnG := ⟨_, _, G_is_operation, F_is_operation.kp, B_is_operation, ok_is_opnG F_is_operation B A_ARGUMENTS⟩
  have D_cko : Df l.prog w K mg base "check_operations" 2 P_check_operations spChkOpns := ⟨_, _, G_check_operations, F_check_operations.kp, B_check_operations, ok_chk_opns F_check_operations B D_io⟩
  have D_ckoG : Df l.prog w K mg base "check_operations" 2 P_check_operations spChkOpnsG := ⟨_, _, G_check_operations, F_check_operations.kp, B_check_operations, ok_chk_opnsG F_check_operations B D_ioG⟩
  have E15s : ∀ j, j = 2 ∨ j = 4 ∨ j = 5 → Err15 K CP cE (cE j) j := fun j hj => hj.elim (fun e => by subst e; exact X_UnknownOrder) fun hj => hj.elim (fun e => by subst e; exact X_InvalidOrder) fun e => by subst e; exact X_TooManyOrders
  have O_bt : FnOk l.prog w K mg base CX0 6 _ _ P_Office_batch (spBatch C_Office C_Net) := ok_batch F_Office_batch T_Office D_cko M_Office_execute O_ex B_Office_execute
  have O_btF : FnOk l.prog w K mg base (L2.CX l.prog w) 6 _ _ P_Office_batch (spBatchF C_Office C_Net cE) := ok_batchF F_Office_batch T_Office D_ckoG ME.gp E15s M_Office_execute O_ex O_exN B_Office_execute
  exact ok_law F_law TBl B T_Net T_Office F_l_error_of G_l_error_of F_l_error_of.kp B_l_error_of ME E15s D_rnd D_bel D_net D_st D_opn D_wk D_eq D_std G_Office M_Office_init O_oi B_Office_init M_Office_undo O_un2 B_Office_undo M_Office_redo O_rd2 B_Office_redo M_Office_batch O_bt O_btF B_Office_batch
end Cp
open PySem PySem.W PyProof.Rows
set_option maxRecDepth 100000 in
set_option maxHeartbeats 0 in
theorem PySem.Challenge.cw_chasepost_k22_batches_of_operations_holds : PySem.Challenge.rw_chasepost_k22_batches_of_operations.Holds := by
  w_on; o_law; k_head; (case hw => w_witness2)
  k_fill
  refine LamX.walk_ofOwn (l := PySem.Challenge.rw_chasepost_k22_batches_of_operations) (n := 63) (k := 9) (x := "_law_script") (CX := fun _ => L2.CX0) rfl (by decide) rfl ⟨rfl, by decide, by decide⟩ (by decide +kernel) (fun w h Y => PySem.W.km_in_of Y) ?F (fun _ _ _ _ _ h => h)
  case F =>
    intro w mg fa h Y KX G hmg own
    refine' Cp.all_mk KX G hmg own ?aCNet ?aCOffice ?a1 ?l1 ?c1 ?k1 ?a2 ?l2 ?c2 ?k2 ?a3 ?l3 ?c3 ?k3 ?a4 ?l4 ?c4 ?k4 ?a5 ?l5 ?c5 ?k5 ?a6 ?l6 ?c6 ?k6 ?a7 ?l7 ?c7 ?k7 ?a8 ?l8 ?c8 ?k8 ?a9 ?l9 ?c9 ?k9 ?a10 ?l10 ?c10 ?k10 ?a11 ?l11 ?c11 ?k11 ?a12 ?l12 ?c12 ?k12 ?a13 ?l13 ?c13 ?k13 ?a14 ?l14 ?c14 ?k14 ?a15 ?l15 ?c15 ?k15 ?a16 ?l16 ?c16 ?k16 ?a17 ?l17 ?c17 ?k17 ?a18 ?l18 ?c18 ?k18 ?a19 ?l19 ?c19 ?k19 ?a20 ?l20 ?c20 ?k20 ?a21 ?l21 ?c21 ?k21 ?a22 ?l22 ?c22 ?k22 ?a23 ?l23 ?c23 ?k23 ?a24 ?i24 ?l24 ?c24 ?k24 ?a25 ?i25 ?l25 ?c25 ?k25 ?a26 ?pg26 ?pt26 ?pc26 ?l26 ?c26 ?k26 ?a27 ?i27 ?l27 ?c27 ?k27 ?a28 ?i28 ?l28 ?c28 ?k28 ?a29 ?i29 ?l29 ?c29 ?k29 ?a30 ?i30 ?l30 ?c30 ?k30 ?a31 ?i31 ?l31 ?c31 ?k31 ?a32 ?i32 ?l32 ?c32 ?k32 ?a33 ?i33 ?l33 ?c33 ?k33 ?a34 ?pg34 ?pt34 ?pc34 ?l34 ?c34 ?k34 ?a35 ?i35 ?l35 ?c35 ?k35 ?a36 ?i36 ?l36 ?c36 ?k36 ?pgNet ?hdNet ?poNet ?saNet ?mkNet ?kcNet ?nNet_period ?nNet_houses ?nNet_orders ?nNet_followed ?pgOffice ?hdOffice ?poOffice ?saOffice ?mkOffice ?kcOffice ?nOffice_net ?nOffice_steps ?nOffice_effective ?nOffice_snapshots ?vLONGEST_PERIOD ?vMOST_HOUSES ?vMOST_ORDERS ?vLONGEST_DELAY ?gd_ARGUMENTS ?ld_ARGUMENTS ?kd_ARGUMENTS ?lo_ARGUMENTS ?vd_ARGUMENTS_0 ?vd_ARGUMENTS_1 ?vd_ARGUMENTS_2 ?vd_ARGUMENTS_3 ?vd_ARGUMENTS_4 ?vd_ARGUMENTS_5 ?zlen ?zrange ?zisinstance ?zint ?zbool ?zstr ?ztuple ?zlist ?zall ?zabs ?zenumerate ?tl ?t11 ?tP ?th ?gEP ?iEP ?tEP ?bEP ?zVE ?gE0 ?iE0 ?tE0 ?gE1 ?iE1 ?tE1 ?gE2 ?iE2 ?tE2 ?gE3 ?iE3 ?tE3 ?gE4 ?iE4 ?tE4 ?gE5 ?iE5 ?tE5 ?gE6 ?iE6 ?tE6 ?gE7 ?iE7 ?tE7 ?gE8 ?iE8 ?tE8 ?gE9 ?iE9 ?tE9 ?gE10 ?iE10 ?tE10 ?gE11 ?iE11 ?tE11 ?gE12 ?iE12 ?tE12 ?gE13 ?iE13 ?tE13 ?gE14 ?iE14 ?tE14 ?heN ?heT ?sE2_0 ?sE2_1 ?sE2_2 ?sE2_3 ?sE2_4 ?sE2_5 ?sE2_6 ?sE2_7 ?sE2_8 ?sE2_9 ?sE2_10 ?sE2_11 ?sE2_12 ?sE2_13 ?sE2_14 ?sE2_P ?bE2 ?vE2 ?kE2 ?h1E2 ?h2E2 ?h3E2 ?h4E2 ?h5E2 ?xE2 ?sE4_0 ?sE4_1 ?sE4_2 ?sE4_3 ?sE4_4 ?sE4_5 ?sE4_6 ?sE4_7 ?sE4_8 ?sE4_9 ?sE4_10 ?sE4_11 ?sE4_12 ?sE4_13 ?sE4_14 ?sE4_P ?bE4 ?vE4 ?kE4 ?h1E4 ?h2E4 ?h3E4 ?h4E4 ?h5E4 ?xE4 ?sE5_0 ?sE5_1 ?sE5_2 ?sE5_3 ?sE5_4 ?sE5_5 ?sE5_6 ?sE5_7 ?sE5_8 ?sE5_9 ?sE5_10 ?sE5_11 ?sE5_12 ?sE5_13 ?sE5_14 ?sE5_P ?bE5 ?vE5 ?kE5 ?h1E5 ?h2E5 ?h3E5 ?h4E5 ?h5E5 ?xE5
    (case aCNet => k_is)
    (case aCOffice => k_is)
    (case a1 => k_is)
    (case l1 => k_is)
    (case c1 => k_is)
    (case k1 => k_is)
    (case a2 => k_is)
    (case l2 => k_is)
    (case c2 => k_is)
    (case k2 => k_is)
    (case a3 => k_is)
    (case l3 => k_is)
    (case c3 => k_is)
    (case k3 => k_is)
    (case a4 => k_is)
    (case l4 => k_is)
    (case c4 => k_is)
    (case k4 => k_is)
    (case a5 => k_is)
    (case l5 => k_is)
    (case c5 => k_is)
    (case k5 => k_is)
    (case a6 => k_is)
    (case l6 => k_is)
    (case c6 => k_is)
    (case k6 => k_is)
    (case a7 => k_is)
    (case l7 => k_is)
    (case c7 => k_is)
    (case k7 => k_is)
    (case a8 => k_is)
    (case l8 => k_is)
    (case c8 => k_is)
    (case k8 => k_is)
    (case a9 => k_is)
    (case l9 => k_is)
    (case c9 => k_is)
    (case k9 => k_is)
    (case a10 => k_is)
    (case l10 => k_is)
    (case c10 => k_is)
    (case k10 => k_is)
    (case a11 => k_is)
    (case l11 => k_is)
    (case c11 => k_is)
    (case k11 => k_is)
    (case a12 => k_is)
    (case l12 => k_is)
    (case c12 => k_is)
    (case k12 => k_is)
    (case a13 => k_is)
    (case l13 => k_is)
    (case c13 => k_is)
    (case k13 => k_is)
    (case a14 => k_is)
    (case l14 => k_is)
    (case c14 => k_is)
    (case k14 => k_is)
    (case a15 => k_is)
    (case l15 => k_is)
    (case c15 => k_is)
    (case k15 => k_is)
    (case a16 => k_is)
    (case l16 => k_is)
    (case c16 => k_is)
    (case k16 => k_is)
    (case a17 => k_is)
    (case l17 => k_is)
    (case c17 => k_is)
    (case k17 => k_is)
    (case a18 => k_is)
    (case l18 => k_is)
    (case c18 => k_is)
    (case k18 => k_is)
    (case a19 => k_is)
    (case l19 => k_is)
    (case c19 => k_is)
    (case k19 => k_is)
    (case a20 => k_is)
    (case l20 => k_is)
    (case c20 => k_is)
    (case k20 => k_is)
    (case a21 => k_is)
    (case l21 => k_is)
    (case c21 => k_is)
    (case k21 => k_is)
    (case a22 => k_is)
    (case l22 => k_is)
    (case c22 => k_is)
    (case k22 => k_is)
    (case a23 => k_is)
    (case l23 => k_is)
    (case c23 => k_is)
    (case k23 => k_is)
    (case a24 => k_is)
    (case i24 => k_is)
    (case l24 => k_is)
    (case c24 => k_is)
    (case k24 => k_is)
    (case a25 => k_is)
    (case i25 => k_is)
    (case l25 => k_is)
    (case c25 => k_is)
    (case k25 => k_is)
    (case a26 => k_is)
    (case pg26 => k_is)
    (case pt26 => k_is)
    (case pc26 => k_is)
    (case l26 => k_is)
    (case c26 => k_is)
    (case k26 => k_is)
    (case a27 => k_is)
    (case i27 => k_is)
    (case l27 => k_is)
    (case c27 => k_is)
    (case k27 => k_is)
    (case a28 => k_is)
    (case i28 => k_is)
    (case l28 => k_is)
    (case c28 => k_is)
    (case k28 => k_is)
    (case a29 => k_is)
    (case i29 => k_is)
    (case l29 => k_is)
    (case c29 => k_is)
    (case k29 => k_is)
    (case a30 => k_is)
    (case i30 => k_is)
    (case l30 => k_is)
    (case c30 => k_is)
    (case k30 => k_is)
    (case a31 => k_is)
    (case i31 => k_is)
    (case l31 => k_is)
    (case c31 => k_is)
    (case k31 => k_is)
    (case a32 => k_is)
    (case i32 => k_is)
    (case l32 => k_is)
    (case c32 => k_is)
    (case k32 => k_is)
    (case a33 => k_is)
    (case i33 => k_is)
    (case l33 => k_is)
    (case c33 => k_is)
    (case k33 => k_is)
    (case a34 => k_is)
    (case pg34 => k_is)
    (case pt34 => k_is)
    (case pc34 => k_is)
    (case l34 => k_is)
    (case c34 => k_is)
    (case k34 => k_is)
    (case a35 => k_is)
    (case i35 => k_is)
    (case l35 => k_is)
    (case c35 => k_is)
    (case k35 => k_is)
    (case a36 => k_is)
    (case i36 => k_is)
    (case l36 => k_is)
    (case c36 => k_is)
    (case k36 => k_is)
    (case pgNet => k_is)
    (case hdNet => k_is)
    (case poNet => k_is)
    (case saNet => k_is)
    (case mkNet => k_is)
    (case kcNet => k_is)
    (case nNet_period => k_is)
    (case nNet_houses => k_is)
    (case nNet_orders => k_is)
    (case nNet_followed => k_is)
    (case pgOffice => k_is)
    (case hdOffice => k_is)
    (case poOffice => k_is)
    (case saOffice => k_is)
    (case mkOffice => k_is)
    (case kcOffice => k_is)
    (case nOffice_net => k_is)
    (case nOffice_steps => k_is)
    (case nOffice_effective => k_is)
    (case nOffice_snapshots => k_is)
    (case vLONGEST_PERIOD => k_is)
    (case vMOST_HOUSES => k_is)
    (case vMOST_ORDERS => k_is)
    (case vLONGEST_DELAY => k_is)
    (case gd_ARGUMENTS => k_is)
    (case ld_ARGUMENTS => k_is)
    (case kd_ARGUMENTS => k_keys)
    (case lo_ARGUMENTS => first | rfl | decide +kernel)
    (case vd_ARGUMENTS_0 => k_is)
    (case vd_ARGUMENTS_1 => k_is)
    (case vd_ARGUMENTS_2 => k_is)
    (case vd_ARGUMENTS_3 => k_is)
    (case vd_ARGUMENTS_4 => k_is)
    (case vd_ARGUMENTS_5 => k_is)
    (case zlen => k_is)
    (case zrange => k_is)
    (case zisinstance => k_is)
    (case zint => k_is)
    (case zbool => k_is)
    (case zstr => k_is)
    (case ztuple => k_is)
    (case zlist => k_is)
    (case zall => k_is)
    (case zabs => k_is)
    (case zenumerate => k_is)
    (case tl => k_is)
    (case t11 => rfl)
    (case tP => first | rfl | decide +kernel)
    (case th => first | rfl | decide +kernel)
    (case gEP => k_is)
    (case iEP => k_is)
    (case tEP => k_is)
    (case bEP => k_is)
    (case zVE => k_is)
    (case gE0 => k_is)
    (case iE0 => k_is)
    (case tE0 => k_is)
    (case gE1 => k_is)
    (case iE1 => k_is)
    (case tE1 => k_is)
    (case gE2 => k_is)
    (case iE2 => k_is)
    (case tE2 => k_is)
    (case gE3 => k_is)
    (case iE3 => k_is)
    (case tE3 => k_is)
    (case gE4 => k_is)
    (case iE4 => k_is)
    (case tE4 => k_is)
    (case gE5 => k_is)
    (case iE5 => k_is)
    (case tE5 => k_is)
    (case gE6 => k_is)
    (case iE6 => k_is)
    (case tE6 => k_is)
    (case gE7 => k_is)
    (case iE7 => k_is)
    (case tE7 => k_is)
    (case gE8 => k_is)
    (case iE8 => k_is)
    (case tE8 => k_is)
    (case gE9 => k_is)
    (case iE9 => k_is)
    (case tE9 => k_is)
    (case gE10 => k_is)
    (case iE10 => k_is)
    (case tE10 => k_is)
    (case gE11 => k_is)
    (case iE11 => k_is)
    (case tE11 => k_is)
    (case gE12 => k_is)
    (case iE12 => k_is)
    (case tE12 => k_is)
    (case gE13 => k_is)
    (case iE13 => k_is)
    (case tE13 => k_is)
    (case gE14 => k_is)
    (case iE14 => k_is)
    (case tE14 => k_is)
    (case heN => k_is)
    (case heT => k_is)
    (case sE2_0 => k_is)
    (case sE2_1 => k_is)
    (case sE2_2 => k_is)
    (case sE2_3 => k_is)
    (case sE2_4 => k_is)
    (case sE2_5 => k_is)
    (case sE2_6 => k_is)
    (case sE2_7 => k_is)
    (case sE2_8 => k_is)
    (case sE2_9 => k_is)
    (case sE2_10 => k_is)
    (case sE2_11 => k_is)
    (case sE2_12 => k_is)
    (case sE2_13 => k_is)
    (case sE2_14 => k_is)
    (case sE2_P => k_is)
    (case bE2 => k_is)
    (case vE2 => k_is)
    (case kE2 => k_is)
    (case h1E2 => k_is)
    (case h2E2 => k_is)
    (case h3E2 => k_is)
    (case h4E2 => k_is)
    (case h5E2 => k_is)
    (case xE2 => k_exc)
    (case sE4_0 => k_is)
    (case sE4_1 => k_is)
    (case sE4_2 => k_is)
    (case sE4_3 => k_is)
    (case sE4_4 => k_is)
    (case sE4_5 => k_is)
    (case sE4_6 => k_is)
    (case sE4_7 => k_is)
    (case sE4_8 => k_is)
    (case sE4_9 => k_is)
    (case sE4_10 => k_is)
    (case sE4_11 => k_is)
    (case sE4_12 => k_is)
    (case sE4_13 => k_is)
    (case sE4_14 => k_is)
    (case sE4_P => k_is)
    (case bE4 => k_is)
    (case vE4 => k_is)
    (case kE4 => k_is)
    (case h1E4 => k_is)
    (case h2E4 => k_is)
    (case h3E4 => k_is)
    (case h4E4 => k_is)
    (case h5E4 => k_is)
    (case xE4 => k_exc)
    (case sE5_0 => k_is)
    (case sE5_1 => k_is)
    (case sE5_2 => k_is)
    (case sE5_3 => k_is)
    (case sE5_4 => k_is)
    (case sE5_5 => k_is)
    (case sE5_6 => k_is)
    (case sE5_7 => k_is)
    (case sE5_8 => k_is)
    (case sE5_9 => k_is)
    (case sE5_10 => k_is)
    (case sE5_11 => k_is)
    (case sE5_12 => k_is)
    (case sE5_13 => k_is)
    (case sE5_14 => k_is)
    (case sE5_P => k_is)
    (case bE5 => k_is)
    (case vE5 => k_is)
    (case kE5 => k_is)
    (case h1E5 => k_is)
    (case h2E5 => k_is)
    (case h3E5 => k_is)
    (case h4E5 => k_is)
    (case h5E5 => k_is)
    (case xE5 => k_exc)
