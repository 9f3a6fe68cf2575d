import PyProof.Rows.All
import Wide.All
import OpenK.AllK
import Wide.FinOn
import HandS.ForMost
import HandS.IsInst
import HandS.Property
import HandS.Codes
import HandS.Style
import HandS.WordsExc
import KE.KEqSeq
import HandS.Deep
import HandS.GenList
import HandS.GenYield
import KE.GoesMore
import PyProof.Draws
import KE.SortData
import KE.KUnpackStar
import HandS.CallLocal
import KE.KAssignIn
import KE.GoesEnumKw
import HandS.ClsMeth
import HandS.FStr
import HandS.StrMore
import KE.DataFind
import HandS.Conv
import HandS.SortInts
import KE.DataMinMax
import HandS.SortKw
import HandS.DictTup
import KE.KDictCopyH
import HandS.TupAny
import HandS.TupMul
import HandS.Wide
import HandS.Star
import HandS.NoneIn
import KE.KRevSl
import HandS.Lambda
import HandS.ExcIs
import HandS.TryOnly
import HandS.EndOwn
import KE.KNestM
import HandS.TupLen
import HandS.TupSets
import PySem.Challenge.RW_chasepost_k28_nets_with_long_periods
set_option Elab.async false
set_option linter.all false
set_option maxRecDepth 100000
namespace Cp
open PySem L2
def top (i : Nat) : Stmt := PySem.Challenge.pw_chasepost_k28_nets_with_long_periods.main.body.getD i (.Pass ⟨0, 0, 0, 0⟩)
/-! ### enumerate over a tuple: a walk for a for (the library's own serves lists) -/
section
open PyProof.Rows
open PySem.AutoSeq1 (wpAny_loadPart')
/-- what enumerate makes of a tuple: its iterator, then the enumerate object -/
abbrev enumHeap (g : Heap) (t : Addr) : Heap :=
  (g.push { cls := .type "tuple_iterator", data := .fields #[.ref t, .int 0 0] }).push { cls := .type "enumerate", data := .fields #[.none, .bool false, .ref g.objs.size, rawInt 0, .none, .none] }
theorem enumT_meets (t : Addr) (xs : Array Value) (k : Nat) (dd : Option Addr) (sv : Array (Option Value)) :
    Meets (Builtin.«enumerate.__new__» ⟨[.type "enumerate", .ref t], []⟩) (fun _ R s => s.heap.get? t = some { cls := .type "tuple", dict := dd, data := .seq xs k, slots := sv } ∧
      R (.ok (.ret (.ref (s.heap.objs.size + 1)))) { s with heap := enumHeap s.heap t }) :=
  .of_wp fun P1 w1 A1 R1 s1 h1 => by
    obtain ⟨hp, gg, dr, tks, oo⟩ := s1
    obtain ⟨ht, hR⟩ := h1
    have hz : (hp.push { cls := .type "tuple_iterator", data := .fields #[.ref t, .int 0 0] }).objs.size = hp.objs.size + 1 := Heap.size_push ..
    have subE := sub_enumerate
    have isT : Heap.IsTuple (Shared.heap ⟨hp, gg, dr, tks, oo⟩) t xs := ⟨_, ht, rfl, k, rfl⟩
    replace hR : R1 (.ok (.ret (.ref (hp.push { cls := .type "tuple_iterator", data := .fields #[.ref t, .int 0 0] }).objs.size))) ⟨enumHeap hp t, gg, dr, tks, oo⟩ := by rw [hz]; exact hR
    wp_walk using wpAny_loadPart' ht
    refine wpAny_stack_any fun stk => wpAny_pure ?_
    split
    · rename_i cc _ _ _ _ _
      cases (cc == Value.type "enumerate")
      · wp_walk using wpAny_loadPart' ht, wpAny_pyIter_tuple isT
        exact ⟨_, rfl, hR⟩
      · wp_walk using wpAny_loadPart' ht, wpAny_pyIter_tuple isT
        exact ⟨_, rfl, hR⟩
    · wp_walk using wpAny_loadPart' ht, wpAny_pyIter_tuple isT
      exact ⟨_, rfl, hR⟩
theorem enumT_call {P : Program} {w : World} {A : Around} {E : Value → Shared → Prop} {s : Shared} {t : Addr} {xs : Array Value} {Q : Value → Shared → Prop} (hT : s.heap.IsTuple t xs)
    (h : ∀ h', IsEnum h' (s.heap.objs.size + 1) s.heap.objs.size 0 .none → h'.IsTupleIter s.heap.objs.size t 0 → (∀ b o, s.heap.get? b = some o → h'.get? b = some o) → Q (.ref (s.heap.objs.size + 1)) { s with heap := h' }) :
    wpAny (model P w) A (call (.type "enumerate") [.ref t]) Q E s := by
  obtain ⟨⟨cv, dd, dv, sv⟩, ht, hc, k, hd⟩ := hT
  obtain rfl : cv = .type "tuple" := hc
  obtain rfl : dv = .seq xs k := hd
  refine callType_new F.called_enumerate (by decide) (F.typeCall_enumerate_1 _) (F.newCall_enumerate_1 _) (fun ob => F.args_object_init_2 ob _) F.entry_enumerate_new (enumT_meets t xs k dd sv) ⟨ht, ?_⟩
  have hz : (s.heap.push { cls := .type "tuple_iterator", data := .fields #[.ref t, .int 0 0] }).objs.size = s.heap.objs.size + 1 := Heap.size_push ..
  have q1 : IsEnum (enumHeap s.heap t) (s.heap.objs.size + 1) s.heap.objs.size 0 .none := by
    have q := Heap.get?_push_size (s.heap.push { cls := .type "tuple_iterator", data := .fields #[.ref t, .int 0 0] }) (o := { cls := .type "enumerate", data := .fields #[.none, .bool false, .ref s.heap.objs.size, rawInt 0, .none, .none] }) rfl
    rw [hz] at q
    exact q
  exact ⟨⟨_, q1, rfl⟩, h _ q1 ⟨_, Heap.get?_push_of_some _ (Heap.get?_push_size _ rfl), rfl, rfl⟩ fun b o x => Heap.get?_push_of_some _ (Heap.get?_push_of_some _ x)⟩
/-- the tuple at a as it stands, each item in a new pair with its number -/
def IteT (K : PySem.W.Frag) (a : Addr) : It :=
  ⟨fun i H => ∃ (xs : List V) (x : V), SqT K H a xs ∧ xs[i]? = some x, fun i H v H' => ∃ T x, v = .ref T ∧ H T = none ∧ H' = upd H T (.tup [.int (i : Nat), x]) ∧ ∀ xs, SqT K H a xs → xs[i]? = some x, fun i H => ∃ xs : List V, SqT K H a xs ∧ xs.length ≤ i⟩
theorem enumT_turn {P : Program} {w : World} {K : PySem.W.Frag} {elts : List Expr} {kk : Nat} {tpos : Pos} (a e it : Addr) (hai : a ≠ it) (hae : a ≠ e) :
    Turn P w K (.Tuple elts kk tpos) (IteT K a) [e, it] e (fun i h => (∃ old, IsEnum h e it ((i : Nat) : Int) old) ∧ h.IsTupleIter it a i ∧ e ≠ it) where
  mem := List.mem_cons_self
  obj := fun i h st b hb => by
    obtain ⟨⟨old, q1⟩, ⟨o, q2, _, q3⟩, _⟩ := st
    rcases List.mem_cons.mp hb with z | z
    · rw [z]
      exact ⟨_, q1, fun v q => nomatch q⟩
    · rw [List.mem_singleton.mp z]
      exact ⟨o, q2, fun v q => by rw [q3] at q; cases q⟩
  keep := fun i h h' st k => by
    obtain ⟨⟨old, q1⟩, ⟨o, q2, r⟩, q4⟩ := st
    exact ⟨⟨old, k e List.mem_cons_self _ q1⟩, ⟨o, k it (by simp) o q2, r⟩, q4⟩
  item := by
    rintro X rfl rfl rfl hc i pins s σ H E I hf ⟨⟨old, q1⟩, q2, q3⟩ ⟨xs, x, hq, hx⟩
    obtain ⟨its, rv, p, hz⟩ := I.tuple hq
    obtain ⟨u, hu, ru⟩ := rv.get hx
    have hel : e < s.heap.objs.size := Heap.lt_size q1
    have hil : it < s.heap.objs.size := by
      obtain ⟨_, q, _⟩ := q2
      exact Heap.lt_size q
    have tup : s.heap.IsTuple a its.toArray := p
    have hlt : i < its.toArray.size := by
      have z := (List.getElem?_eq_some_iff.mp hu).1
      simpa using z
    have D : Draws X.prog X.w X.A.in1 it [it, a] its.toArray.size (fun i v => its.toArray[i]? = some v) (fun i h => h.IsTupleIter it a i ∧ h.IsTuple a its.toArray) := Draws.tuple (by exact I.ok.hd hc) it a hai its.toArray
    refine wpAny_pyNext_enum_itemD D q1 ⟨q2, tup⟩ hlt q3 (by simp [q3, hae.symm]) fun y h' tk hP ho st' hT hsz hk => ?_
    obtain rfl : y = u := by
      have z : its.toArray[i]? = some u := by simpa using hu
      exact Option.some.inj (hP.symm.trans z)
    refine ⟨_, rfl, wpAny_letOwnedTupleGo_enum (s := { s with heap := h', toks := tk + 1 }) ho fun h2 q5 sb => ?_⟩
    have hT2 : h2.get? s.heap.objs.size = some { cls := .type "tuple", data := .seq #[.int i tk, y] } := (sb.2 _ (Nat.ne_of_gt hel)).trans hT
    have new : ObjOk X.prog X.w (upd H s.heap.objs.size (.tup [.int (i : Nat), x])) h2 s.heap.objs.size (.tup [.int (i : Nat), x]) :=
      ⟨by show 2 ≤ sizeLine; decide, [.int i tk, y], .cons ⟨_, rfl⟩ (.cons ru .nil), ⟨_, hT2, rfl, _, rfl⟩⟩
    have I2 : Inv X pins σ (upd H s.heap.objs.size (.tup [.int (i : Nat), x])) { s with heap := h2, toks := tk + 1 } :=
      I.turnedNew (ch := [e, it]) (fun b ob hb q => (sb.2 b (fun z => hb (by simp [z]))).trans (hk b ob (fun z => hb (by simp [z])) (fun z => hb (by simp [z])) q)) hf (Nat.le_refl _) new
    refine ⟨.ref s.heap.objs.size, _, I2, rfl, ⟨_, x, rfl, I.hok.fresh (Nat.le_refl _), rfl, fun ys hy => by rw [I.tuple_inj hy hq]; exact hx⟩, ⟨⟨y, ?_⟩, ?_, q3⟩, fun b hb => ?_⟩
    · rw [show ((i + 1 : Nat) : Int) = (i : Int) + 1 by omega]
      exact q5
    · obtain ⟨o, z, r⟩ := st'.1
      exact ⟨o, (sb.2 it (Ne.symm q3)).trans z, r⟩
    · have hb2 : b < s.heap.objs.size := by
        rcases List.mem_cons.mp hb with z | z
        · rw [z]; exact hel
        · rw [List.mem_singleton.mp z]; exact hil
      rw [upd_ne (Nat.ne_of_lt hb2)]
      exact (hf b hb).1
  done := by
    rintro X rfl rfl rfl hc i pins s σ H E I hf ⟨⟨old, q1⟩, q2, q3⟩ ⟨xs, hq, hx⟩
    obtain ⟨its, rv, p, hz⟩ := I.tuple hq
    obtain ⟨f0, f1, f2, f3, f4, f5⟩ := hf it (by simp)
    have hl := rv.length
    have tup : s.heap.IsTuple a its.toArray := p
    have hT : s.TypeIs (.ref e) "enumerate" := ⟨_, q1, rfl⟩
    unfold pyNext
    refine wpAny_bind (wpAny_attempt (wpAny_callSpecial?_slot (name := Str.ofString "__next__") hT F.slot_enumerate_next (wpAny_call_entry F.slot_enumerate_next hT F.entry_enumerate_next ?_ (F.args_enumerate_next_1 _))))
    show wpAny _ _ (field (.ref e) 2 >>= _) _ _ _
    refine wpAny_bind (wpAny_field q1 rfl (x := .ref it) rfl ?_)
    refine wpAny_bind (wpAny_nextOf_tuple_end (by exact I.ok.hd hc) q2 tup (by simp; omega) fun h' x eb hx' => ?_)
    obtain ⟨o, ho, hc'⟩ := hx'
    refine wpAny_bind (wpAny_isInstance (T := "StopIteration") (b := true) ⟨o, ho, hc'⟩ isSubtype_stop ?_)
    exact wpAny_pure ⟨rfl, I.turned (t' := s.toks) (fun b o hb q => eb b o hb q) f0 f1 f3 f4 f5⟩
  self := fun A i s Q E st h => wpAny_pyIter_enum st.1.choose_spec h
def iEnumT (K : PySem.W.Frag) (ta : TA) : TI := fun σ H R => ta σ H fun vs H1 => ∃ a xs, vs = [.ref a] ∧ H1 a = some (.tup xs) ∧ R (IteT K a) H1
theorem pi_enumT {X : Cx} {e : Expr} {ta : TA} {p pos tpos : Pos} {elts : List Expr} {kk : Nat} (hg : Gl X "enumerate") (hm : X.mg "enumerate" = none) (ha : PA X [e] ta) (hs : starEach [e] X.env = [(false, eval e X.env)] := by rfl) :
    PI X (.Tuple elts kk tpos) (.Call (.Name "enumerate" p) [e] [] pos) (iEnumT X.K ta) := by
  refine ⟨fun pins s σ H R I h => ?_⟩
  refine Call_ (ld_blt I hg hm boot_enumerate (PyProof.Rows.callWith_type1 (thn (ha.run pos pins s σ H _ I h) fun us s1 ⟨vs, H1, I1, r1, q1⟩ => ?_) hs rfl))
  obtain ⟨a, xs, rfl, hq, q⟩ := q1
  cases r1 with
  | cons r rr =>
    cases rr
    cases r
    obtain ⟨its, rv, p2, hz⟩ := I1.tuple (.inl (.inl hq))
    have tup : s1.heap.IsTuple a its.toArray := p2
    have hal : a < s1.heap.objs.size := p2.lt
    refine enumT_call tup fun h' q1 q2 hk => wpAny_pyIter_enum q1 ?_
    have I2 : Inv X pins σ H1 { s1 with heap := h' } := I1.kept (t' := s1.toks) hk
    refine ⟨s1.heap.objs.size + 1, [s1.heap.objs.size + 1, s1.heap.objs.size], _, _, H1, rfl, I2, enumT_turn a (s1.heap.objs.size + 1) s1.heap.objs.size (Nat.ne_of_lt hal) (Nat.ne_of_lt (Nat.lt_succ_of_lt hal)), ⟨⟨.none, q1⟩, q2, Nat.succ_ne_self _⟩, fun b hb => ?_, q⟩
    have hle : s1.heap.objs.size ≤ b := by
      rcases List.mem_cons.mp hb with z | z
      · rw [z]; exact Nat.le_add_right _ _
      · rw [List.mem_singleton.mp z]; exact Nat.le_refl _
    exact I1.fpOk hle (I1.hok.fresh hle)
end
/-! ### min and sorted of data, nested to any depth -/
section
open PySem.Spec PyProof.Rows
open PySem.W (alike alikeAll dataLt minD AlikeAll AllAlike Sortable EachIs sorted_data min_list_data readsAll_atA alike_unique dataLe)
/-- min(xs), xs a list of data that are alike -/
def rMinD (K : PySem.W.Frag) : List V → Hp → VK → Prop := fun vs H Q => ∃ (a : Addr) (xs : List V) (d : PyData) (ds : List PyData), vs = [V.ref a] ∧ SqL K H a xs ∧ DpAll K H xs (d :: ds) ∧ AlikeAll (d :: ds) ∧ PyData.depthAll (d :: ds) ≤ 60 ∧
  ∀ (i : Nat) x, xs[i]? = some x → (d :: ds)[i]? = some (minD d ds) → Q x H
theorem minD_mem : ∀ (ds : List PyData) (d : PyData), minD d ds ∈ d :: ds
  | [], d => List.mem_cons_self
  | e :: r, d => by
    show minD (if dataLt e d = true then e else d) r ∈ _
    have h := minD_mem r (if dataLt e d = true then e else d)
    rcases List.mem_cons.mp h with z | z
    · rw [z]
      split <;> simp
    · exact List.mem_cons_of_mem _ (List.mem_cons_of_mem _ z)
theorem cr_minD {X : Cx} (hc : X.calm = true) (hu : X.A.units + 65 < cLine) : CallR X (.builtin "min") (rMinD X.K) := by
  intro pins s σ H vs us Q I r h
  obtain ⟨a, xs, d, ds, rfl, hs, hd, ha, hdp, q⟩ := h
  obtain ⟨its, rv, hl, _⟩ := I.list hs
  rw [Vals.ref1 r]
  obtain ⟨as, hr⟩ := Dp.readsAll I (d :: ds) xs its hd rv
  refine min_list_data (I.ok.hd hc) hl.isList hr ha (by omega) fun i v h' tk bs hi rd hk => ?_
  have hi2 : its[i]? = some v := by simpa using hi
  have hil : i < xs.length := by
    rw [rv.length]
    exact (List.getElem?_eq_some_iff.mp hi2).1
  obtain ⟨u, hu2, ru⟩ := rv.get (List.getElem?_eq_getElem hil)
  obtain rfl : u = v := Option.some.inj (hu2.symm.trans hi2)
  obtain ⟨cs, rc, lt, mem, _⟩ := readsAll_atA hr i u hi
  have rd' := Reads.keeps hk rc
  have e : (d :: ds).getD i .none = minD d ds := alike_unique _ _ _ _ _ (ha.1 _ mem _ (minD_mem ds d)) rd' rd
  refine ⟨_, H, I.kept (t' := tk) hk, ru, q i _ (List.getElem?_eq_getElem hil) ?_⟩
  rw [← e, List.getD_eq_getElem?_getD, List.getElem?_eq_getElem lt]
  rfl
/-- sorted(xs), xs a list of data that are alike: a new list; R: what is known of each item -/
def rSortedD {β : Type} (enc : β → PyData) (K : PySem.W.Frag) : List V → Hp → VK → Prop := fun vs H Q => ∃ (a : Addr) (xs : List V) (bs : List β) (R : V → β → Prop), vs = [V.ref a] ∧ SqL K H a xs ∧ Paired R xs bs ∧ DpAll K H xs (bs.map enc) ∧ AllAlike (bs.map enc) ∧ Sortable (bs.map enc) ∧ (∀ b ∈ bs, (enc b).depth ≤ 60) ∧
  ∀ ys p, Paired R ys (bs.mergeSort (dataLe false enc)) → H p = none → Q (.ref p) (L2.upd H p (.lst ys))
theorem each_pairs {β : Type} {R : Value → β → Prop} {F : V → β → Prop} (h : ∀ v b, R v b → ∃ x, RelV x v ∧ F x b) : ∀ {out : List Value} {bs : List β}, EachIs R out bs → ∃ ys, Vals ys out ∧ Paired F ys bs
  | _, _, .nil => ⟨[], .nil, .nil⟩
  | _, _, .cons r t => by
    obtain ⟨ys, h1, h2⟩ := each_pairs h t
    obtain ⟨x, h3, h4⟩ := h _ _ r
    exact ⟨x :: ys, .cons h3 h1, .cons h4 h2⟩
theorem each_of {β : Type} {K : PySem.W.Frag} {H : Hp} {enc : β → PyData} {R : V → β → Prop} {R' : Value → β → Prop} : ∀ {xs : List V} {us : List Value} {bs : List β}, Vals xs us → Paired R xs bs → DpAll K H xs (bs.map enc) → (∀ x u b, RelV x u → R x b → Dp K H x (enc b) → R' u b) → EachIs R' us bs
  | _, _, [], rv, hr, hd, _ => by
    cases hd
    cases rv
    exact .nil
  | _, _, b :: bs, rv, hr, hd, h => by
    cases hd with
    | cons q t =>
      cases rv with
      | cons r rt =>
        cases hr with
        | cons p pt => exact .cons (h _ _ _ r p q) (each_of rt pt t h)
theorem cr_sortedD {β : Type} {X : Cx} (enc : β → PyData) (hu : X.A.units + 65 < cLine) : CallR X (.builtin "sorted") (rSortedD enc X.K) := by
  intro pins s σ H vs us Q I r h
  obtain ⟨a, xs, bs, R, rfl, hs, hR, hd, hal, hk, hdp, q⟩ := h
  obtain ⟨its, rv, hl, hz⟩ := I.list hs
  rw [Vals.ref1 r]
  have e1 : EachIs (fun v b => ∃ x, RelV x v ∧ R x b) its bs := each_of rv hR hd fun x u b hr hx _ => ⟨x, hr, hx⟩
  have e2 : EachIs (fun v b => ∃ as, Reads s.heap v (enc b) as) its bs := each_of rv hR hd fun x u b hr _ hd => Dp.reads I _ _ _ hd hr
  have hl2 := e1.length
  refine sorted_data hl.isList e1 e2 hal hk (by rw [← hl2, ← rv.length]; exact hz) (fun b hb => by have := hdp b hb; omega) fun out ho eo => ?_
  obtain ⟨ys, h1, h2⟩ := each_pairs (F := R) (fun v b ⟨x, a1, a2⟩ => ⟨x, a1, a2⟩) eo
  obtain ⟨ep, he'⟩ := PyProof.Rows.sortedAll_at s.heap its out.toArray
  have hlen : ys.length ≤ sizeLine := by
    rw [h1.length, ho, ← hl2, ← rv.length]
    exact hz
  exact ⟨.ref _, L2.upd H (s.heap.objs.size + 1) (.lst ys), I.laid (t' := s.toks) (fun _ _ => PyProof.Rows.sortedAll_old) (Nat.le_succ _) ⟨hlen, out, ep, h1, he'⟩, rfl, q ys _ h2 (I.hok.fresh (Nat.le_succ _))⟩
end
/-! ### xs.count(x), x data of any depth -/
section
open PySem.Spec PyProof.Rows
def rCntD (K : PySem.W.Frag) : V → List V → Hp → VK → Prop := fun x xs H Q => ∃ (a : Addr) (ys : List V) (y : V) (d : PyData) (ds : List PyData), x = V.ref a ∧ xs = [y] ∧ SqL K H a ys ∧ DpAll K H ys ds ∧ Dp K H y d ∧ PyData.plainAll ds = true ∧ d.plain = true ∧ d.depth ≤ 60 ∧ Q (.int ((ds.countP fun z => PyData.eqv z d : Nat) : Int)) H
theorem mt_countD {X : Cx} (hu : X.A.units + 65 < cLine) : MtR X "list.count" (rCntD X.K) := by
  intro pins s σ H x xs v us Q I rx rxs h
  obtain ⟨a, ys, y, d, ds, rfl, rfl, hl, hds, hd, p1, p2, hdp, q⟩ := h
  cases rx
  cases rxs with
  | cons ry rt =>
    rename_i uy ut
    cases rt
    obtain ⟨bs, r1⟩ := Dp.reads I d y uy hd ry
    obtain ⟨its, rv, hL, _⟩ := I.list hl
    obtain ⟨as, hr⟩ := Dp.readsAll I ds ys its hds rv
    refine PySem.SeqAt.count_list_data hL.isList hr r1 p1 p2 (by omega) ⟨.int _, H, I.tok _, ⟨_, rfl⟩, q⟩
end
/-! ### max(xs, default=d), xs a list of ints -/
section
open PySem.Spec PyProof.Rows
open PySem.W (alike alikeAll dataLt maxD AlikeAll max_list_default)
def rMaxDef (K : PySem.W.Frag) : List V → List V → Hp → VK → Prop := fun vs zs H Q => ∃ (a : Addr) (ns : List Int) (d : V), vs = [V.ref a] ∧ zs = [d] ∧ SqL K H a (ns.map V.int) ∧ (ns = [] → Q d H) ∧ ∀ m, m ∈ ns → (∀ y, y ∈ ns → y ≤ m) → Q (.int m) H
def maxI (x : Int) (xs : List Int) : Int := xs.foldl (fun a y => if a < y then y else a) x
theorem maxI_spec : ∀ (xs : List Int) (x : Int), maxI x xs ∈ x :: xs ∧ ∀ y ∈ x :: xs, y ≤ maxI x xs
  | [], x => ⟨List.mem_cons_self, fun y hy => by rw [List.mem_singleton.mp hy]; exact Int.le_refl _⟩
  | z :: r, x => by
    obtain ⟨h1, h2⟩ := maxI_spec r (if x < z then z else x)
    have e : maxI x (z :: r) = maxI (if x < z then z else x) r := rfl
    rw [e]
    have h3 := h2 _ List.mem_cons_self
    refine ⟨?_, fun y hy => ?_⟩
    · rcases List.mem_cons.mp h1 with q | q
      · rw [q]
        split <;> simp
      · exact List.mem_cons_of_mem _ (List.mem_cons_of_mem _ q)
    · rcases List.mem_cons.mp hy with q | q
      · rw [q]
        split at h3 <;> rename_i c
        · rw [if_pos c]; omega
        · rw [if_neg c]; omega
      · rcases List.mem_cons.mp q with q | q
        · rw [q]
          split at h3 <;> rename_i c
          · rw [if_pos c]; omega
          · rw [if_neg c]; omega
        · exact h2 y (List.mem_cons_of_mem _ q)
theorem maxD_int : ∀ (xs : List Int) (x : Int), maxD (.int x) (xs.map PyData.int) = .int (maxI x xs)
  | [], x => rfl
  | y :: ys, x => by
    show maxD (if dataLt (.int x) (.int y) = true then .int y else .int x) (ys.map PyData.int) = .int (maxI (if x < y then y else x) ys)
    rw [PySem.W.dataLt_int]
    by_cases c : x < y
    · rw [if_pos (decide_eq_true c), if_pos c]
      exact maxD_int ys y
    · rw [if_neg (by rw [decide_eq_false c]; exact Bool.false_ne_true), if_neg c]
      exact maxD_int ys x
theorem ints_dp {K : PySem.W.Frag} {H : Hp} : ∀ ns : List Int, DpAll K H (ns.map V.int) (ns.map PyData.int)
  | [] => .nil
  | n :: ns => .cons (.int _) (ints_dp ns)
theorem ints_alike (ns : List Int) : AlikeAll (ns.map PyData.int) := by
  refine ⟨fun x hx y hy => ?_, fun x hx => ?_⟩
  · obtain ⟨s, _, rfl⟩ := List.mem_map.mp hx
    obtain ⟨t, _, rfl⟩ := List.mem_map.mp hy
    simp [alike]
  · obtain ⟨s, _, rfl⟩ := List.mem_map.mp hx
    intro e
    cases e
theorem ints_depth : ∀ ns : List Int, PyData.depthAll (ns.map PyData.int) = 0
  | [] => by simp [PyData.depthAll]
  | n :: ns => by simp [PyData.depthAll, PyData.depth, ints_depth ns]
theorem cr_maxDef {X : Cx} (hc : X.calm = true) (hu : X.A.units + 65 < cLine) : CallRK X (.builtin "max") [Str.ofString "default"] (rMaxDef X.K) := by
  intro pins s σ H vs zs us ws Q I r rz h
  obtain ⟨a, ns, d, rfl, rfl, hs, q0, q⟩ := h
  obtain ⟨its, rv, hl, _⟩ := I.list hs
  rw [Vals.ref1 r]
  cases rz with
  | cons rd rt =>
    cases rt
    rename_i dv
    obtain ⟨as, hr⟩ := Dp.readsAll I (ns.map PyData.int) (ns.map V.int) its (ints_dp ns) rv
    refine max_list_default (I.ok.hd hc) hl.isList hr (ints_alike ns) (by rw [ints_depth]; omega) (fun e h' tk hk => ?_) fun y ys i v h' tk bs e hi rd' hk => ?_
    · exact ⟨d, H, I.kept (t' := tk) hk, rd, q0 (List.map_eq_nil_iff.mp e)⟩
    · cases ns with
      | nil => cases e
      | cons n ns =>
        rw [List.map_cons] at e
        injection e with e1 e2
        subst e1
        subst e2
        rw [maxD_int] at rd'
        obtain ⟨m1, m2⟩ := maxI_spec ns n
        have hi2 : its[i]? = some v := by simpa using hi
        have hil : i < (List.map V.int (n :: ns)).length := by
          rw [rv.length]
          exact (List.getElem?_eq_some_iff.mp hi2).1
        obtain ⟨u, hu2, ru⟩ := rv.get (List.getElem?_eq_getElem hil)
        obtain rfl : u = v := Option.some.inj (hu2.symm.trans hi2)
        cases rd'
        exact ⟨.int _, H, I.kept (t' := tk) hk, ⟨_, rfl⟩, q _ m1 m2⟩
end
/-! ### d.values(), list(d.values()) of a dict whose keys are tuples -/
section
open PySem.Spec PyProof.Rows
/-- the view d.values() at p -/
def valsO (p d : Addr) : HO := .ext fun h => h.IsValuesView p d
theorem valsO_ok {P : Program} {w : World} {H : Hp} {h : Heap} {p d : Addr} (e : h.get? p = some { cls := .type "dict_values", data := .fields #[.ref d] }) : ObjOk P w H h p (valsO p d) :=
  ⟨⟨_, e, rfl, rfl⟩, ⟨_, e⟩, fun h1 h2 x k => let ⟨o, ho, r⟩ := x; ⟨o, k o ho, r⟩⟩
variable {X : Cx}
def rValuesT : V → List V → Hp → VK → Prop := fun x xs H Q => ∃ (a : Addr) (kvs : List (List L2.Key × V)), x = .ref a ∧ xs = [] ∧ H a = some (.dT kvs) ∧ ∀ p, H p = none → Q (.ref p) (L2.upd H p (valsO p a))
theorem mt_valuesT : MtR X "dict.values" rValuesT := by
  intro pins s σ H x xs v us Q I rx rxs h
  obtain ⟨a, kvs, rfl, rfl, ha, q⟩ := h
  cases rx
  cases rxs
  obtain ⟨z, hd, xs', rel, o, es, ep, ho, hx, hdat, _⟩ := dt_of I.hok ha
  have raw : s.heap.DictRaw a es ep := ⟨o, ho, hx, hdat⟩
  refine call_meetsIn PySem.F.slot_dict_values raw.typeIs PySem.F.entry_dict_values (PySem.F.args_dict_values_1 _) (PySem.meets_dict_values_raw a hd) ⟨⟨es, ep, raw⟩, ?_⟩
  have hf : H s.heap.objs.size = none := I.hok.fresh (Nat.le_refl _)
  exact ⟨.ref s.heap.objs.size, L2.upd H s.heap.objs.size (valsO s.heap.objs.size a), I.laid (t' := s.toks) (fun b u e => Heap.get?_push_of_some _ e) (Nat.le_refl _) (valsO_ok (Heap.get?_push_size _ rfl)), rfl, q _ hf⟩
theorem kt_vals {H : Hp} : ∀ {kvs : List (List L2.Key × V)} {xs : List (List L2.Key × Addr × Value)}, KT H kvs xs → Vals (kvs.map (·.2)) (xs.map fun x => x.2.2)
  | _, _, .nil => .nil
  | _, _, .cons h t => .cons h.2.2 (kt_vals t)
theorem call_list_valuesT (hc : X.calm = true) : CallR X (.type "list") (fun xs H Q => ∃ (v d : Addr) (kvs : List (List L2.Key × V)), xs = [V.ref v] ∧ H v = some (valsO v d) ∧ H d = some (.dT kvs) ∧ ∀ p, H p = none → Q (.ref p) (L2.upd H p (.lst (kvs.map (·.2))))) := by
  intro pins s σ H xs us Q I r h
  obtain ⟨v, d, kvs, rfl, hv, hd, q⟩ := h
  obtain ⟨u, rfl, rx⟩ := r.one
  cases rx
  obtain ⟨z, hs, ks, pr, o, es, ep, ho, hx, hdt, he, hn⟩ := dt_of I.hok hd
  have hvv : s.heap.IsValuesView v d := (show ObjOk X.prog X.w H s.heap v (valsO v d) from I.hok v _ hv).1
  have raw : s.heap.DictRaw d es ep := ⟨o, ho, hx, hdt⟩
  have l1 : es.size = ks.length := size_of_entries he
  have l2 : kvs.length = ks.length := Paired.length pr
  refine PySem.W.kdl_call PySem.KdlSrc.rawValues (I.ok.hd hc) ⟨hvv, raw⟩ (by omega) fun h' tk acc' c' kp e it => ?_
  have ea : acc'.toList = ks.map fun x => x.2.2 := by
    have hl : acc'.toList.length = ks.length := by rw [Array.length_toList, it.1]; exact l1
    apply List.ext_getElem?
    intro j
    rw [List.getElem?_map]
    cases hj : acc'.toList[j]? with
    | none =>
      have h1 := List.getElem?_eq_none_iff.mp hj
      rw [List.getElem?_eq_none (by omega)]
      all_goals rfl
    | some v =>
      obtain ⟨hi, hv⟩ := it.2 j v (by rw [← Array.getElem?_toList]; exact hj)
      have qe := entry_at he j
      rw [Array.getElem?_eq_getElem hi] at qe
      cases hb : ks[j]? with
      | none =>
        rw [hb] at qe
        exact nomatch (show some es[j] = none from qe)
      | some b =>
        rw [hb] at qe
        have e2 : es[j] = entryOfKey (tupleKind (mixKind X.prog X.w)) b := Option.some.inj qe
        rw [hv, e2]
        all_goals rfl
  have rv : Vals (kvs.map (·.2)) acc'.toList := by
    rw [ea]
    exact kt_vals pr
  have hz : (kvs.map (·.2)).length ≤ sizeLine := by rw [List.length_map]; omega
  refine ⟨.ref s.heap.objs.size, _, I.laid (t' := tk) (o := .lst (kvs.map (·.2))) kp (Nat.le_refl _) ?_, rfl, q _ (I.hok.fresh (Nat.le_refl _))⟩
  exact ⟨hz, acc'.toList, c', rv, by rw [Array.toArray_toList]; exact e⟩
end
/-! ### xs * k of a tuple, k 0 or 1 -/
section
open PySem.Spec PyProof.Rows
theorem tuple_mul1 (l : Addr) (items : Array Value) (n : Nat) (dd : Option Addr) (sl : Array (Option Value)) (u : Tok) :
    Meets (Builtin.«tuple.__mul__» ⟨[.ref l, .int 1 u], []⟩) (fun _ R s => s.heap.get? l = some { cls := .type "tuple", dict := dd, data := .seq items n, slots := sl } ∧ R (.ok (.ret (.ref l))) s) :=
  .of_wp fun prog w A R s h => by
    obtain ⟨hp, g, d, tk, os⟩ := s
    obtain ⟨hl, h⟩ := h
    have f1 := AutoSeq1.idx_int
    have c1 : (items.isEmpty || (1 : Int) == 1) = true := by rw [Bool.or_eq_true]; exact .inr rfl
    wp_walk using wpAny_loadPart' hl
    repeat (first
      | (refine wpAny_ite_false (decide_eq_false (by decide)) ?_; wp_walk using wpAny_loadPart' hl)
      | (refine wpAny_ite_true (decide_eq_true c1) ?_; wp_walk using wpAny_loadPart' hl))
    exact ⟨_, rfl, h⟩
theorem tuple_mul0 (l : Addr) (items : Array Value) (n : Nat) (dd : Option Addr) (sl : Array (Option Value)) (u : Tok) (hi : items.isEmpty = false) :
    Meets (Builtin.«tuple.__mul__» ⟨[.ref l, .int 0 u], []⟩) (fun _ R s => s.heap.get? l = some { cls := .type "tuple", dict := dd, data := .seq items n, slots := sl } ∧ R (.ok (.ret (.ref s.heap.objs.size))) { s with heap := s.heap.push { cls := Value.type "tuple", data := Data.seq #[] }, toks := s.toks }) :=
  .of_wp fun prog w A R s h => by
    obtain ⟨hp, g, d, tk, os⟩ := s
    obtain ⟨hl, h⟩ := h
    have f1 := AutoSeq1.idx_int
    have c1 : ¬ (items.isEmpty || (0 : Int) == 1) = true := by rw [hi]; decide
    have c2 : (decide ((0 : Int) ≤ 0) || items.isEmpty) = true := by rw [hi]; decide
    wp_walk using wpAny_loadPart' hl
    repeat (first
      | (refine wpAny_ite_false (decide_eq_false (by decide)) ?_; wp_walk using wpAny_loadPart' hl)
      | (refine wpAny_ite_false (decide_eq_false c1) ?_; wp_walk using wpAny_loadPart' hl)
      | (refine wpAny_ite_true (decide_eq_true c2) ?_; wp_walk using wpAny_loadPart' hl))
    exact ⟨_, rfl, h⟩
def rRep01 (K : PySem.W.Frag) : R2 := fun x y H Q => ∃ l k xs, x = .ref l ∧ y = .int k ∧ SqT K H l xs ∧ xs ≠ [] ∧ (k = 0 ∨ k = 1) ∧ (k = 1 → Q (.ref l) H) ∧ (k = 0 → ∀ p, H p = none → Q (.ref p) (L2.upd H p (.tup [])))
theorem op_rep01 {X : Cx} : OpR X (binaryOp .Mult) (rRep01 X.K) := by
  intro pins s σ H x y v u Q I rx ry h
  obtain ⟨l, k, xs, rfl, rfl, hT, hne, hk, q1, q0⟩ := h
  cases rx
  obtain ⟨t, rfl⟩ := ry
  obtain ⟨its, r, ⟨⟨cls, dd, data, sl⟩, ho, hc, n, hd⟩, hs⟩ := I.tuple hT
  simp only at hc hd
  subst hc hd
  have hn : its ≠ [] := fun e => hne (by
    have := r.length
    rw [e] at this
    exact List.eq_nil_of_length_eq_zero this)
  have hi : its.toArray.isEmpty = false := by
    cases its with
    | nil => exact absurd rfl hn
    | cons a b => rfl
  rcases hk with rfl | rfl
  · refine wpAny_binaryOp_repeat_ref (T := "tuple") (U := "int") (by decide) ⟨_, ho, rfl⟩ (fun s' => typeIs_int s' 0 t) noFill_tuple_mul PySem.F.fills_int_mul PySem.F.slot_int_rmul repeat_tuple PySem.F.slot_int_index.lookup
      (call_meets PySem.F.slot_int_rmul (typeIs_int s 0 t) PySem.F.entry_int_rmul (PySem.F.args_int_rmul_2 _ _) (int_rmul_tuple 0 t l its.toArray n dd sl)
        ⟨ho, rfl, ⟨_, ho, rfl⟩, call_meets PySem.F.slot_tuple_mul ⟨_, ho, rfl⟩ PySem.F.entry_tuple_mul (PySem.F.args_tuple_mul_2 _ _) (tuple_mul0 l its.toArray n dd sl t hi) ⟨ho, ?_⟩⟩)
    refine ⟨.ref s.heap.objs.size, _, I.laid (t' := s.toks) (o := .tup []) (fun b ob q => Heap.get?_push_of_some _ q) (Nat.le_refl _) ?_, rfl, q0 rfl _ (I.hok.fresh (Nat.le_refl _))⟩
    exact ⟨Nat.zero_le _, [], .nil, IsTup.new _ _⟩
  · refine wpAny_binaryOp_repeat_ref (T := "tuple") (U := "int") (by decide) ⟨_, ho, rfl⟩ (fun s' => typeIs_int s' 1 t) noFill_tuple_mul PySem.F.fills_int_mul PySem.F.slot_int_rmul repeat_tuple PySem.F.slot_int_index.lookup
      (call_meets PySem.F.slot_int_rmul (typeIs_int s 1 t) PySem.F.entry_int_rmul (PySem.F.args_int_rmul_2 _ _) (int_rmul_tuple 1 t l its.toArray n dd sl)
        ⟨ho, rfl, ⟨_, ho, rfl⟩, call_meets PySem.F.slot_tuple_mul ⟨_, ho, rfl⟩ PySem.F.entry_tuple_mul (PySem.F.args_tuple_mul_2 _ _) (tuple_mul1 l its.toArray n dd sl t) ⟨ho, ?_⟩⟩)
    exact ⟨.ref l, H, I, rfl, q1 rfl⟩
end
/-! ### a comprehension over two ranges -/
theorem lc2_rng {lo : Int} {n : Nat} {g : TG} {tt tt1 : TT} {wi1 : TI} {g1 : TG} {te : TE} {vs vs1 : List Nat} {σ : L2.St} {H1 : Hp} {D : Addr} {Qd : Hp → Prop} (Pv : Nat → Hp → Prop) (h0 : Pv 0 (upd H1 D (.lst [])))
    (hs : ∀ i H, i < n → Pv i H → g (.int (lo + i)) (wipe σ vs) H fun σ2 H2 => wipe σ2 vs = wipe σ vs ∧ tt σ2 H2 fun b H3 =>
      if b = true then wi1 σ2 H3 fun J1 H4 => ∃ W1 : Nat → Nat → Hp → Prop, (∃ m, W1 0 m H4) ∧ ∀ j k H, W1 j k H →
          (J1.stop j H ∧ Pv (i + 1) H) ∨ (J1.go j H ∧ ∃ Nx1 : Hp → Prop, (∀ H', Nx1 H' → ∃ k', k' < k ∧ W1 (j + 1) k' H') ∧ ∀ x H', J1.yld j H x H' → g1 x (wipe σ2 vs1) H' fun σ3 H5 => wipe σ3 vs1 = wipe σ2 vs1 ∧ tt1 σ3 H5 fun b H6 =>
            if b = true then te σ3 H6 fun y H7 => ∃ acc, H7 D = some (.lst acc) ∧ acc.length < sizeLine ∧ Nx1 (upd H7 D (.lst (acc ++ [y]))) else Nx1 H6)
      else Pv (i + 1) H3) (hd : ∀ H, Pv n H → Qd H) :
    ∃ W : Nat → Nat → Hp → Prop, (∃ m, W 0 m (upd H1 D (.lst []))) ∧ ∀ i m H, W i m H →
      ((Itr lo n).stop i H ∧ Qd H) ∨ ((Itr lo n).go i H ∧ ∃ Nx : Hp → Prop, (∀ H', Nx H' → ∃ m', m' < m ∧ W (i + 1) m' H') ∧ ∀ x H', (Itr lo n).yld i H x H' → g x (wipe σ vs) H' fun σ2 H2 => wipe σ2 vs = wipe σ vs ∧ tt σ2 H2 fun b H3 =>
        if b = true then wi1 σ2 H3 fun J1 H4 => ∃ W1 : Nat → Nat → Hp → Prop, (∃ m, W1 0 m H4) ∧ ∀ j k H, W1 j k H →
          (J1.stop j H ∧ Nx H) ∨ (J1.go j H ∧ ∃ Nx1 : Hp → Prop, (∀ H', Nx1 H' → ∃ k', k' < k ∧ W1 (j + 1) k' H') ∧ ∀ x H', J1.yld j H x H' → g1 x (wipe σ2 vs1) H' fun σ3 H5 => wipe σ3 vs1 = wipe σ2 vs1 ∧ tt1 σ3 H5 fun b H6 =>
            if b = true then te σ3 H6 fun y H7 => ∃ acc, H7 D = some (.lst acc) ∧ acc.length < sizeLine ∧ Nx1 (upd H7 D (.lst (acc ++ [y]))) else Nx1 H6)
        else Nx H3) := by
  refine ⟨fun i m H => m = n - i ∧ i ≤ n ∧ Pv i H, ⟨n, by simp, Nat.zero_le _, h0⟩, ?_⟩
  rintro i m H ⟨rfl, hi, p⟩
  by_cases hlt : i < n
  · refine .inr ⟨hlt, Pv (i + 1), fun H' p' => ⟨n - (i + 1), by omega, rfl, hlt, p'⟩, fun x H' y => ?_⟩
    obtain ⟨e, y⟩ := y
    subst e y
    exact hs i _ hlt p
  · have e : i = n := by omega
    subst e
    exact .inl ⟨Nat.le_refl _, hd H p⟩
theorem in_rng {lo : Int} {n : Nat} {g1 : TG} {tt1 : TT} {te : TE} {vs1 : List Nat} {σ2 : L2.St} {H4 : Hp} {D : Addr} {Nx : Hp → Prop} (Pv : Nat → Hp → Prop) (h0 : Pv 0 H4)
    (hs : ∀ i H, i < n → Pv i H → g1 (.int (lo + i)) (wipe σ2 vs1) H fun σ3 H5 => wipe σ3 vs1 = wipe σ2 vs1 ∧ tt1 σ3 H5 fun b H6 =>
      if b = true then te σ3 H6 fun y H7 => ∃ acc, H7 D = some (.lst acc) ∧ acc.length < sizeLine ∧ Pv (i + 1) (upd H7 D (.lst (acc ++ [y]))) else Pv (i + 1) H6) (hd : ∀ H, Pv n H → Nx H) :
    ∃ W1 : Nat → Nat → Hp → Prop, (∃ m, W1 0 m H4) ∧ ∀ j k H, W1 j k H →
      ((Itr lo n).stop j H ∧ Nx H) ∨ ((Itr lo n).go j H ∧ ∃ Nx1 : Hp → Prop, (∀ H', Nx1 H' → ∃ k', k' < k ∧ W1 (j + 1) k' H') ∧ ∀ x H', (Itr lo n).yld j H x H' → g1 x (wipe σ2 vs1) H' fun σ3 H5 => wipe σ3 vs1 = wipe σ2 vs1 ∧ tt1 σ3 H5 fun b H6 =>
        if b = true then te σ3 H6 fun y H7 => ∃ acc, H7 D = some (.lst acc) ∧ acc.length < sizeLine ∧ Nx1 (upd H7 D (.lst (acc ++ [y]))) else Nx1 H6) := by
  refine ⟨fun i m H => m = n - i ∧ i ≤ n ∧ Pv i H, ⟨n, by simp, Nat.zero_le _, h0⟩, ?_⟩
  rintro i m H ⟨rfl, hi, p⟩
  by_cases hlt : i < n
  · refine .inr ⟨hlt, Pv (i + 1), fun H' p' => ⟨n - (i + 1), by omega, rfl, hlt, p'⟩, fun x H' y => ?_⟩
    obtain ⟨e, y⟩ := y
    subst e y
    exact hs i _ hlt p
  · have e : i = n := by omega
    subst e
    exact .inl ⟨Nat.le_refl _, hd H p⟩
/-! ### plain mathematics: orders, the first valid one, ways -/
structure Od where
  s : Nat
  t : Nat
  f : Nat
  n : Nat
  e : Nat
def Od.vs (o : Od) : List V := [.int o.s, .int o.t, .int o.f, .int o.n, .int o.e]
structure OdOk (p h : Nat) (o : Od) : Prop where
  s : o.s < h
  t : o.t < h
  st : o.s ≠ o.t
  f : o.f < p
  n1 : 1 ≤ o.n
  n : o.n ≤ p
  e1 : 1 ≤ o.e
  e : o.e ≤ 9
/-- the order o is valid on the day d of a net of period p -/
def onDay (p : Nat) (o : Od) (d : Int) : Bool := decide ((d - (o.f : Int)) % (p : Int) < (o.n : Int))
def hit (p : Nat) (s : Nat) (d : Int) (o : Od) : Bool := decide (o.s = s) && onDay p o d
/-- the number of the order that is followed -/
def idx (p : Nat) (os : List Od) (s : Nat) (d : Int) : Option Nat := os.findIdx? (hit p s d)
def optV : Option Nat → V
  | none => .non
  | some k => .int k
theorem optV_flat (o : Option Nat) : flatV (optV o) = true := by cases o <;> rfl
theorem idx_mod (p : Nat) (os : List Od) (s : Nat) (d : Int) : idx p os s (d % (p : Int)) = idx p os s d := by
  unfold idx
  congr 1
  funext o
  unfold hit onDay
  rw [Int.emod_sub_emod]
theorem idx_nat (p : Nat) (os : List Od) (s d : Nat) : idx p os s ((d % p : Nat) : Int) = idx p os s (d : Int) := by
  rw [Int.natCast_emod]
  exact idx_mod p os s d
theorem idx_later (p : Nat) (os : List Od) (s d k : Nat) : idx p os s ((d + p * k : Nat) : Int) = idx p os s (d : Int) := by
  rw [← idx_nat p os s (d + p * k), Nat.add_mul_mod_self_left, idx_nat]
theorem idx_lt {p : Nat} {os : List Od} {s k : Nat} {d : Int} (h : idx p os s d = some k) : k < os.length := by
  unfold idx at h
  exact (List.findIdx?_eq_some_iff_getElem.mp h).1
theorem idx_take_succ {p : Nat} {os : List Od} {s k : Nat} {d : Int} {o : Od} (h : os[k]? = some o) :
    idx p (os.take (k + 1)) s d = (idx p (os.take k) s d).or (if hit p s d o = true then some k else none) := by
  obtain ⟨hk, ho⟩ := List.getElem?_eq_some_iff.mp h
  unfold idx
  rw [List.take_add_one, h, Option.toList_some, List.findIdx?_append, List.findIdx?_singleton]
  have hl : (os.take k).length = k := by rw [List.length_take]; omega
  rw [hl]
  cases hh : hit p s d o with
  | true => simp
  | false => simp
/-- which days of the period are among the first l days of an order -/
def among (p f l d : Nat) : Prop := ∃ j, j < l ∧ (f + j) % p = d
theorem among_zero (p f d : Nat) : ¬ among p f 0 d := fun ⟨_, h, _⟩ => absurd h (Nat.not_lt_zero _)
theorem among_succ {p f l d : Nat} : among p f (l + 1) d ↔ among p f l d ∨ (f + l) % p = d := by
  constructor
  · rintro ⟨j, hj, e⟩
    by_cases z : j = l
    · subst z
      exact .inr e
    · exact .inl ⟨j, by omega, e⟩
  · rintro (⟨j, hj, e⟩ | e)
    · exact ⟨j, by omega, e⟩
    · exact ⟨l, by omega, e⟩
theorem among_on {p h d : Nat} {o : Od} (k : OdOk p h o) (hd : d < p) : among p o.f o.n d ↔ onDay p o (d : Int) = true := by
  unfold onDay
  rw [decide_eq_true_iff]
  have kf := k.f
  have kn := k.n
  have key : ((d : Int) - (o.f : Int)) % (p : Int) = if o.f ≤ d then (d : Int) - o.f else (d : Int) - o.f + p := by
    split
    · exact Int.emod_eq_of_lt (by omega) (by omega)
    · rw [← Int.add_emod_right]
      exact Int.emod_eq_of_lt (by omega) (by omega)
  rw [key]
  constructor
  · rintro ⟨j, hj, e⟩
    by_cases q : o.f + j < p
    · rw [Nat.mod_eq_of_lt q] at e
      rw [if_pos (by omega)]
      omega
    · have e2 : (o.f + j) % p = o.f + j - p := by
        rw [Nat.mod_eq_sub_mod (by omega), Nat.mod_eq_of_lt (by omega)]
      rw [e2] at e
      split
      · omega
      · omega
  · intro q
    by_cases c : o.f ≤ d
    · rw [if_pos c] at q
      exact ⟨d - o.f, by omega, by rw [show o.f + (d - o.f) = d by omega]; exact Nat.mod_eq_of_lt hd⟩
    · rw [if_neg c] at q
      refine ⟨d + p - o.f, by omega, ?_⟩
      rw [show o.f + (d + p - o.f) = d + p by omega, Nat.add_mod_right]
      exact Nat.mod_eq_of_lt hd
/-- one hop of a letter at a house on a day -/
def hop (p : Nat) (os : List Od) (st : Nat × Nat) : Option (Nat × Nat) :=
  match idx p os st.1 (st.2 : Int) with
  | none => none
  | some k => (os[k]?).map fun o => (o.t, st.2 + o.e)
/-- the first n stops of a letter -/
def way (p : Nat) (os : List Od) : Nat → Nat × Nat → List (Nat × Nat)
  | 0, _ => []
  | n + 1, st => st :: match hop p os st with
    | none => []
    | some st' => way p os n st'
/-! ### heaps -/
/-- all but what stands at d is as it was -/
def But (d : Addr) (H H' : Hp) : Prop := ∀ b o, b ≠ d → H b = some o → H' b = some o
theorem But.refl {d : Addr} {H : Hp} : But d H H := fun _ _ _ e => e
theorem But.trans {d : Addr} {H H1 H2 : Hp} (a : But d H H1) (b : But d H1 H2) : But d H H2 := fun c o n e => b c o n (a c o n e)
theorem But.of {d : Addr} {H H' : Hp} (s : Same H H') : But d H H' := fun b o _ e => s b o e
theorem But.upd {d : Addr} {H : Hp} {o : HO} : But d H (upd H d o) := fun b u n e => by rw [upd_ne n]; exact e
theorem same_upd {H : Hp} {p : Addr} {o : HO} (h : H p = none) : Same H (L2.upd H p o) := fun b x e => by
  rw [upd_ne (ne_of_none e h)]
  exact e
theorem same_updN {H H' : Hp} {p : Addr} {o : HO} (s : Same H H') (h : H p = none) : Same H (L2.upd H' p o) := fun b x e => by
  rw [upd_ne (ne_of_none e h)]
  exact s b x e
theorem But.new {d p : Addr} {H : Hp} {o : HO} (h : H p = none) : But d H (L2.upd H p o) := But.of (same_upd h)
theorem But.free {d p : Addr} {H H' : Hp} {o : HO} (s : But d H H') (hd : H' d = some o) (h : H' p = none) : H p = none := by
  cases q : H p with
  | none => rfl
  | some u =>
    by_cases e : p = d
    · rw [e, hd] at h
      cases h
    · rw [s p u e q] at h
      cases h
/-- the tail of ints of the source of numbers -/
def DL (s c : Nat) (r : List Nat) : List V := .int s :: .int c :: r.map fun (n : Nat) => V.int (n : Int)
def DAt (H : Hp) (d : Addr) : Prop := ∃ s c r, s < 2147483647 ∧ r.length ≤ 63 ∧ H d = some (.lst (DL s c r))
theorem DAt.but {H H' : Hp} {d : Addr} (h : DAt H d) (s : Same H H') : DAt H' d := by
  obtain ⟨a, b, c, h1, h2, h3⟩ := h
  exact ⟨a, b, c, h1, h2, s _ _ h3⟩
theorem DAt.som {H : Hp} {d : Addr} (h : DAt H d) : ∃ o, H d = some o := by
  obtain ⟨a, b, c, h1, h2, h3⟩ := h
  exact ⟨_, h3⟩
theorem dl0 {s c : Nat} {r : List Nat} : atI (DL s c r) 0 = some (.int s) := atI_nat (j := 0) rfl
theorem dl1 {s c : Nat} {r : List Nat} : atI (DL s c r) 1 = some (.int c) := atI_nat (j := 1) rfl
theorem ix_at {n j : Nat} (hj : j < n) : ixN n (j : Int) = some j := by
  unfold ixN
  rw [if_pos (by omega), if_pos (by omega)]
  simp
theorem seqIx {n j : Nat} (hj : j < n) : seqIndex? (j : Int) n = some j := by
  unfold seqIndex?
  have h1 : ¬ (j : Int) < 0 := by omega
  have h2 : (decide (0 ≤ (j : Int)) && decide ((j : Int) < (n : Int))) = true := by
    rw [decide_eq_true (show 0 ≤ (j : Int) by omega), decide_eq_true (show (j : Int) < (n : Int) by omega)]
    rfl
  simp only [if_neg h1]
  rw [if_pos h2]
  simp
theorem fmod_nat (a b : Nat) : (a : Int).fmod (b : Int) = ((a % b : Nat) : Int) := by
  rw [Int.fmod_eq_emod_of_nonneg _ (by omega)]
  rfl
theorem fdiv_nat (a b : Nat) : (a : Int).fdiv (b : Int) = ((a / b : Nat) : Int) := by
  rw [Int.fdiv_eq_ediv_of_nonneg _ (by omega)]
  rfl
theorem dlx {s c j : Nat} {r : List Nat} (h : j < 2) : ixN (DL s c r).length (j : Int) = some j := ix_at (by
  show j < (List.map _ r).length + 1 + 1
  omega)
theorem dllen {s c : Nat} {r : List Nat} : (DL s c r).length = r.length + 2 := by
  show (List.map _ r).length + 1 + 1 = _
  rw [List.length_map]
/-- the built-ins that no name of the program hides -/
structure Blt (mg : Str → Option Value) : Prop where
  len : mg "len" = none
  range : mg "range" = none
  isi : mg "isinstance" = none
  int : mg "int" = none
  bool : mg "bool" = none
  str : mg "str" = none
  tuple : mg "tuple" = none
  list : mg "list" = none
  all : mg "all" = none
  abs : mg "abs" = none
  enum : mg "enumerate" = none
/-- a def of the top that keeps its promise -/
def Df (P : Program) (w : World) (K : PySem.W.Frag) (mg : Str → Option Value) (base : Heap) (x : Str) (k : Nat) (ps : List Str) (sp : Sp) : Prop :=
  ∃ (f : Addr) (fd : FuncData), mg x = some (.ref f) ∧ PySem.W.keepIn K (.ref f) = true ∧ Binds K fd ps [] ∧ FnOk P w K mg base CX0 k f fd ps sp
/-- a list of numbers -/
def nints (l : List Nat) : List V := l.map fun (n : Nat) => V.int (n : Int)
/-- filtering a range step by step -/
theorem filter_range_succ' {n : Nat} {f : Nat → Bool} : (List.range (n + 1)).filter f = (List.range n).filter f ++ (if f n = true then [n] else []) := by
  rw [List.range_succ, List.filter_append]
  congr 1
  by_cases c : f n = true
  · rw [if_pos c, List.filter_cons_of_pos c]
    rfl
  · rw [if_neg c, List.filter_cons_of_neg c]
    rfl
abbrev s_l_below : Stmt := top 48
abbrev N_l_below : List Str := ["_law_d", "_law_limit", "_law_result"]
abbrev P_l_below : List Str := ["_law_d", "_law_limit"]
theorem sc_l_below : FnScope N_l_below P_l_below (defScope s_l_below) := ⟨rfl, rfl, rfl, by decide +kernel, rfl, by decide +kernel, by decide +kernel⟩
/-! ### the next number -/
def spBelow : Sp := fun vs H Q _ => ∃ (d : Addr) (n : Nat), vs = [.ref d, .int n] ∧ DAt H d ∧ 0 < n ∧ n < 1152921504606846976 ∧
  ∀ H' (r : Nat), r < n → But d H H' → DAt H' d → Q (.int r) H'
section
variable {P : Program} {w : World} {K : PySem.W.Frag} {mg : Str → Option Value} {base : Heap}
theorem ok_below {f : Addr} {fd : FuncData} (F : Fun K "_law_below" "_law_below" s_l_below f fd) (ml : mg "len" = none) : FnOk P w K mg base CX0 2 f fd P_l_below spBelow := by
  refine F.ok sc_l_below (fun vs H Q E h => ?_) (fun cdv A outer s H vs Q E hr h => ?_)
  · obtain ⟨d, n, rfl, _⟩ := h
    rfl
  · obtain ⟨d, n, rfl, ⟨s0, c, r, hs, hl, hd⟩, n0, n1, q⟩ := h
    refine ⟨_, C8.pss_cut (ps_if (PW.pt (pw_and (pt_cmpR op_eq (pe_ix ix_list (pv 0) pe_int (fun _ _ => rfl)) pe_int (nomark _)) (pw_and1 (pt_cmpR op_gt (pe_callB call_len_seq (by rfl) ml PySem.boot_len (pa_cons (pv 0) pa_nil)) pe_int (nomark _)))))
        (pss_one (ps_asg (pe_bm PySem.F.plainAttrs_list PySem.F.slot_list_pop PySem.F.type_list_pop mt_popAt (pv 0) (pa_cons pe_int pa_nil)) (pg_sub (pv 0) pe_int set_list))) pss_nil)
      (pss_cons (ps_if (pt_cmpR op_gt (pe_ix ix_list (pv 0) pe_int (fun _ _ => rfl)) pe_int (nomark _))
        (pss_cons (ps_set (i := 2) sc_l_below.nd rfl (.inl rfl) (pe_op op_modN (pe_ix ix_list (pv 0) pe_int (fun _ _ => rfl)) (pv 1)))
          (pss_cons (ps_asg (pe_op op_fdivW (pe_ix ix_list (pv 0) pe_int (fun _ _ => rfl)) (pv 1)) (pg_sub (pv 0) pe_int set_list)) (pss_one (ps_ret (pv 2))))) pss_nil)
      (pss_cons (ps_asg (pe_op op_modN (pe_op op_add (pe_op op_mul (pe_ix ix_list (pv 0) pe_int (fun _ _ => rfl)) pe_int) pe_int) pe_int) (pg_sub (pv 0) pe_int set_list))
        (pss_one (ps_ret (pe_op op_modN (pe_op op_fdivN (pe_ix ix_list (pv 0) pe_int (fun _ _ => rfl)) pe_int) (pv 1)))))), ?_⟩
    -- if d[1] == 0 and len(d) > 2: d[1] = d.pop(2)
    have rest : ∀ (s1 c1 : Nat) (r1 : List Nat) (H1 : Hp), s1 < 2147483647 → r1.length ≤ 63 → But d H H1 → H1 d = some (.lst (DL s1 c1 r1)) →
        (fun σ' H' => σ' = [some (V.ref d), some (V.int n), none] ∧ But d H H' ∧ DAt H' d : L2.St → Hp → Prop) [some (V.ref d), some (V.int n), none] H1 := fun s1 c1 r1 H1 a1 a2 a3 a4 => ⟨rfl, a3, s1, c1, r1, a1, a2, a4⟩
    refine ⟨fun σ' H' => σ' = [some (V.ref d), some (V.int n), none] ∧ But d H H' ∧ DAt H' d, ⟨_, rfl, d, _, 1, _, rfl, rfl, SqL.of hd, dl1, rfl, _, rfl, ?_⟩, ?_⟩
    · refine ite2 (fun e => ?_) (fun _ => iteF (rest s0 c r H hs hl .refl hd))
      refine ⟨_, rfl, d, _, rfl, .inl (SqL.of hd), _, _, rfl, rfl, _, rfl, ?_⟩
      refine ite2 (fun e2 => ?_) (fun _ => rest s0 c r H hs hl .refl hd)
      have e3 : 2 < ((DL s0 c r).length : Int) := of_decide_eq_true e2
      rw [dllen] at e3
      cases r with
      | nil => exact absurd e3 (by decide)
      | cons m r2 =>
        have hl2 : r2.length + 1 ≤ 63 := hl
        refine ⟨_, rfl, .inl ⟨rfl, _, SqL.of hd⟩, d, _, 2, 2, .int m, rfl, rfl, hd, by decide, by decide, ?_, rfl, ?_⟩
        · exact seqIx (n := (DL s0 c (m :: r2)).length) (j := 2) (by rw [dllen, List.length_cons]; omega)
        · refine ⟨_, rfl, d, _, 1, 1, rfl, rfl, upd_same, ?_, ?_⟩
          · exact dlx (s := s0) (c := c) (r := r2) (j := 1) (by decide)
          · refine rest s0 m r2 _ hs (by omega) (fun b o nb e => ?_) upd_same
            rw [upd_ne nb, upd_ne nb]
            exact e
    · rintro σ' H1 ⟨rfl, b1, s1, c1, r1, hs1, hl1, hd1⟩
      -- if d[1] > 0
      refine ⟨_, rfl, d, _, 1, _, rfl, rfl, SqL.of hd1, dl1, _, _, rfl, rfl, _, rfl, ite2 (fun e => ?_) (fun _ => ?_)⟩
      · refine ⟨_, rfl, d, _, 1, _, rfl, rfl, SqL.of hd1, dl1, _, rfl, _, _, rfl, rfl, by omega, ?_⟩
        refine ⟨_, rfl, d, _, 1, _, rfl, rfl, SqL.of hd1, dl1, _, rfl, _, _, rfl, rfl, wide_div (b := 60) (by omega) (by show n < 2 ^ 60; exact n1) (by decide) (by decide), ?_⟩
        refine ⟨_, rfl, d, _, 1, 1, rfl, rfl, hd1, dlx (j := 1) (by decide), ?_⟩
        refine ⟨_, rfl, ?_⟩
        show Q (V.int ((c1 : Int).fmod (n : Int))) (L2.upd H1 d (.lst (DL s1 c1 r1 |>.set 1 (V.int ((c1 / n : Nat) : Int)))))
        rw [fmod_nat]
        exact q _ _ (Nat.mod_lt _ n0) (b1.trans .upd) ⟨s1, c1 / n, r1, hs1, hl1, upd_same⟩
      · refine ⟨_, rfl, d, _, 0, _, rfl, rfl, SqL.of hd1, dl0, _, _, rfl, rfl, .inl ⟨by omega, by omega⟩, _, _, rfl, rfl, _, _, rfl, rfl, (by show (2147483647 : Int) ≠ 0; decide), ?_⟩
        refine ⟨_, rfl, d, _, 0, 0, rfl, rfl, hd1, dlx (j := 0) (by decide), ?_⟩
        have e5 : ((s1 : Int) * 48271 + 11).fmod 2147483647 = (((s1 * 48271 + 11) % 2147483647 : Nat) : Int) := fmod_nat (s1 * 48271 + 11) 2147483647
        have e6 : ((DL s1 c1 r1).set 0 (V.int (((s1 : Int) * 48271 + 11).fmod 2147483647))) = DL ((s1 * 48271 + 11) % 2147483647) c1 r1 := by
          rw [e5]
          rfl
        have hd2 : (L2.upd H1 d (.lst ((DL s1 c1 r1).set 0 (V.int (((s1 : Int) * 48271 + 11).fmod 2147483647))))) d = some (.lst (DL ((s1 * 48271 + 11) % 2147483647) c1 r1)) := by
          rw [upd_same, e6]
        refine ⟨_, rfl, d, _, 0, _, rfl, rfl, SqL.of hd2, dl0, _, _, rfl, rfl, ⟨by decide, by decide⟩, _, rfl, _, _, rfl, rfl, by omega, ?_⟩
        show Q (V.int (Int.fmod (Int.fdiv (((s1 * 48271 + 11) % 2147483647 : Nat) : Int) ((64 : Nat) : Int)) (n : Int))) _
        rw [fdiv_nat, fmod_nat]
        exact q _ _ (Nat.mod_lt _ n0) (b1.trans .upd) ⟨_, c1, r1, Nat.mod_lt _ (by decide), hl1, hd2⟩
end
abbrev s_l_random : Stmt := top 47
abbrev N_l_random : List Str := ["_law_script", "_law_salt", "_law_seed", "_law_cell"]
abbrev P_l_random : List Str := ["_law_script", "_law_salt"]
theorem sc_l_random : FnScope N_l_random P_l_random (defScope s_l_random) := ⟨rfl, rfl, rfl, by decide +kernel, rfl, by decide +kernel, by decide +kernel⟩
/-! ### the source of numbers -/
def spRandom (K : PySem.W.Frag) : Sp := fun vs H Q _ => ∃ (a : Addr) (ns : List Int) (salt : Nat), vs = [.ref a, .int salt] ∧ SqL K H a (ns.map V.int) ∧ ns.length ≤ 63 ∧ salt < 2147483647 ∧
  ∀ H' d, Same H H' → H d = none → DAt H' d → Q (.ref d) H'
section
variable {P : Program} {w : World} {K : PySem.W.Frag} {mg : Str → Option Value} {base : Heap}
theorem ok_random {f : Addr} {fd : FuncData} (F : Fun K "_law_random" "_law_random" s_l_random f fd) (B : Blt mg) : FnOk P w K mg base CX0 2 f fd P_l_random (spRandom K) := by
  refine F.ok sc_l_random (fun vs H Q E h => ?_) (fun cdv A outer s H vs Q E hr h => ?_)
  · obtain ⟨a, ns, salt, rfl, _⟩ := h
    rfl
  · obtain ⟨a, ns, salt, rfl, hS, hlen, hsalt, q⟩ := h
    refine ⟨_, pss_cons (ps_set (i := 2) sc_l_random.nd rfl (.inl rfl) (pv 1))
      (pss_cons (ps_for PassesOwn.never rfl (pi_list (pv 0)) (pg_name (i := 3) sc_l_random.nd rfl (.inl rfl))
        (pss_one (ps_set (i := 2) sc_l_random.nd rfl (.inl rfl) (pe_op op_modN (pe_op op_add (pe_op op_mul (pv 2) pe_int) (pe_callB call_abs (by rfl) B.abs PyProof.Rows.boot_abs (pa_cons (pv 3) pa_nil))) pe_int))))
      (pss_one (ps_ret (pe_op op_cat (pe_lst (pa_cons (pv 2) (pa_cons pe_int pa_nil)))
        (pe_lc (own := [("_law_cell", 3)]) (g := gName 3) (by rfl) sc_l_random.nd (pi_list (pv 0)) (blkOk_by (N := N_l_random) (sc := defScope s_l_random) (by decide +kernel))
          (fun _ _ _ _ _ => pg_name (i := 3) sc_l_random.nd rfl (.inl rfl)) (fun _ _ _ _ _ => pts_one (pt_cmpR op_ge (pv 3) (pe_op op_pow pe_int pe_int) (nomark _))) (fun _ _ _ _ _ => pv 3)))))), ?_⟩
    refine ⟨_, rfl, .ref a, rfl, a, rfl, ⟨_, hS⟩, for_list (K := K) (a := a) (xs := ns.map V.int) (fun i σ H' => ∃ (z : Nat) (v : Option V), z < 2147483647 ∧ σ = [some (.ref a), some (.int salt), some (.int z), v] ∧ H' = H)
      ⟨salt, none, hsalt, rfl, rfl⟩ (fun i σ H' _ ⟨_, _, _, _, e⟩ => by rw [e]; exact hS) ?_ ?_⟩
    · rintro i y σ H' hi ⟨z, v, hz, rfl, rfl⟩
      obtain ⟨u, rfl⟩ : ∃ u, y = V.int u := by
        rw [List.getElem?_map] at hi
        cases e : ns[i]? with
        | none => rw [e] at hi; cases hi
        | some u => rw [e] at hi; exact ⟨u, (Option.some.inj hi).symm⟩
      refine ⟨_, rfl, _, _, rfl, rfl, .inl ⟨by omega, by omega⟩, _, rfl, _, rfl, _, _, rfl, rfl, _, _, rfl, rfl, (by show (2147483647 : Int) ≠ 0; decide), ?_⟩
      have e1 : (z : Int) * 31 + (if u < 0 then -u else u) = ((z * 31 + u.natAbs : Nat) : Int) := by
        split <;> omega
      refine ⟨(z * 31 + u.natAbs) % 2147483647, some (.int u), Nat.mod_lt _ (by decide), ?_, rfl⟩
      show [some (V.ref a), some (V.int salt), some (V.int (Int.fmod ((z : Int) * 31 + (if u < 0 then -u else u)) 2147483647)), some (V.int u)] = _
      rw [e1, show ((2147483647 : Int)) = ((2147483647 : Nat) : Int) from rfl, fmod_nat]
    · rintro σ H' ⟨z, v, hz, rfl, rfl⟩
      refine ⟨_, rfl, (by show 2 ≤ sizeLine; decide), fun l nl => ?_⟩
      have sl := same_upd (o := HO.lst [V.int z, V.int 0]) nl
      refine ⟨.ref a, rfl, a, rfl, ⟨_, sl.seq hS⟩, fun D nD => ?_⟩
      have nDl : l ≠ D := fun e => by
        rw [← e, upd_same] at nD
        cases nD
      refine lc_list (K := K) (a := a) (xs := ns.map V.int) (fun i H1 => ∃ r : List Nat, r.length ≤ i ∧ H1 = L2.upd (L2.upd H' l (.lst [V.int z, V.int 0])) D (.lst (r.map fun (n : Nat) => V.int (n : Int))))
        ⟨[], Nat.le_refl _, rfl⟩ (fun i H1 _ ⟨r, _, e⟩ => by rw [e]; exact (same_upd nD).seq (sl.seq hS)) ?_ ?_
      · rintro i x H1 hi ⟨r, hr1, rfl⟩
        obtain ⟨u, rfl⟩ : ∃ u, x = V.int u := by
          rw [List.getElem?_map] at hi
          cases e : ns[i]? with
          | none => rw [e] at hi; cases hi
          | some u => rw [e] at hi; exact ⟨u, (Option.some.inj hi).symm⟩
        have hi63 : i < ns.length := by
          have q := (List.getElem?_eq_some_iff.mp hi).1
          rw [List.length_map] at q
          exact q
        refine ⟨rfl, _, rfl, _, _, rfl, rfl, ⟨by decide, by decide, by decide⟩, _, _, rfl, rfl, _, rfl, ite2 (fun e => ?_) (fun _ => ⟨r, by omega, rfl⟩)⟩
        have e1 : (10 : Int) ^ (18 : Int).toNat ≤ u := of_decide_eq_true e
        have e2 : (0 : Int) ≤ u := Int.le_trans (by decide) e1
        refine ⟨_, rfl, _, upd_same, ?_, r ++ [u.toNat], ?_, ?_⟩
        · rw [List.length_map]
          exact small1000 (by omega)
        · rw [List.length_append, List.length_singleton]
          omega
        · rw [upd_upd, List.map_append]
          show L2.upd _ D (.lst (_ ++ [V.int u])) = L2.upd _ D (.lst (_ ++ [V.int (u.toNat : Int)]))
          rw [Int.toNat_of_nonneg e2]
      · rintro H1 ⟨r, hr1, rfl⟩
        rw [List.length_map] at hr1
        refine ⟨l, D, _, _, rfl, rfl, (upd_ne nDl).trans upd_same, upd_same, ?_, fun d nd => ?_⟩
        · rw [List.length_map]
          exact Nat.le_of_lt (small1000 (by show 2 + r.length ≤ 1000; omega))
        · refine q _ d (sl.trans ((same_upd nD).trans (same_upd nd))) (sl.free ((same_upd nD).free nd)) ⟨z, 0, r, hz, by omega, upd_same⟩
end
/-! ### the parts of a net -/
def OrdAt (H : Hp) (v : V) (o : Od) : Prop := ∃ t, v = .ref t ∧ H t = some (.tup o.vs)
def TupKeep (H H' : Hp) : Prop := ∀ b xs, H b = some (.tup xs) → H' b = some (.tup xs)
theorem tk_of {H H' : Hp} (s : Same H H') : TupKeep H H' := fun b _ e => s b _ e
theorem But.tk {d : Addr} {H H' : Hp} (s : But d H H') (hd : DAt H d) : TupKeep H H' := fun b xs e => by
  obtain ⟨_, _, _, _, _, h3⟩ := hd
  exact s b _ (ne_of e h3 (by intro q; cases q)) e
theorem TupKeep.lst {H : Hp} {a : Addr} {xs : List V} {o : HO} (h : H a = some (.lst xs)) : TupKeep H (L2.upd H a o) := fun b ys e => by
  rw [upd_ne (ne_of e h (by intro q; cases q))]
  exact e
theorem But.updN {d p : Addr} {H H' : Hp} {o : HO} (s : But d H H') (h : H p = none) : But d H (L2.upd H' p o) := fun b u n e => by
  rw [upd_ne (ne_of_none e h)]
  exact s b u n e
theorem DAt.updN {d p : Addr} {H : Hp} {o : HO} (h : DAt H d) (n : d ≠ p) : DAt (L2.upd H p o) d := by
  obtain ⟨a, b, c, h1, h2, h3⟩ := h
  exact ⟨a, b, c, h1, h2, by rw [upd_ne n]; exact h3⟩
theorem TupKeep.trans {H H1 H2 : Hp} (a : TupKeep H H1) (b : TupKeep H1 H2) : TupKeep H H2 := fun c o e => b c o (a c o e)
theorem OrdAt.keep {H H' : Hp} {v : V} {o : Od} (k : TupKeep H H') (h : OrdAt H v o) : OrdAt H' v o := by
  obtain ⟨t, e, ht⟩ := h
  exact ⟨t, e, k _ _ ht⟩
theorem OrdsAt.keep {H H' : Hp} {ts : List V} {os : List Od} (k : TupKeep H H') (h : Paired (OrdAt H) ts os) : Paired (OrdAt H') ts os :=
  Paired.mapP h fun _ _ q => q.keep k
theorem Paired.snoc {α β : Type} {F : α → β → Prop} {x : α} {y : β} : ∀ {l1 : List α} {l2 : List β}, Paired F l1 l2 → F x y → Paired F (l1 ++ [x]) (l2 ++ [y])
  | _, _, .nil, q => .cons q .nil
  | _, _, .cons r t, q => .cons r (Paired.snoc t q)
theorem Paired.get? {α β : Type} {F : α → β → Prop} : ∀ {l1 : List α} {l2 : List β} {i : Nat} {y : β}, Paired F l1 l2 → l2[i]? = some y → ∃ x, l1[i]? = some x ∧ F x y
  | _, _, _, _, .nil, e => by simp at e
  | _, _, 0, _, .cons r _, e => by
    simp at e
    subst e
    exact ⟨_, rfl, r⟩
  | _, _, i + 1, y, .cons _ t, e => by
    obtain ⟨u, h1, h2⟩ := Paired.get? (i := i) (y := y) t (by simpa using e)
    exact ⟨u, by simpa using h1, h2⟩
structure NetOk (p h : Nat) (os : List Od) : Prop where
  p1 : 1 ≤ p
  p30 : p ≤ 30
  h1 : 1 ≤ h
  h10 : h ≤ 10
  len : os.length ≤ 20
  ok : ∀ o ∈ os, OdOk p h o
/-- the orders' tuple -/
def OrdsTup (H : Hp) (t : Addr) (os : List Od) : Prop := ∃ ts, H t = some (.tup ts) ∧ Paired (OrdAt H) ts os
theorem OrdsTup.keep {H H' : Hp} {t : Addr} {os : List Od} (k : TupKeep H H') (h : OrdsTup H t os) : OrdsTup H' t os := by
  obtain ⟨ts, h1, h2⟩ := h
  exact ⟨ts, k _ _ h1, OrdsAt.keep k h2⟩
def PartsAt (H : Hp) (a : Addr) (p h : Nat) (os : List Od) : Prop := ∃ t, H a = some (.tup [.int p, .int h, .ref t]) ∧ OrdsTup H t os
theorem PartsAt.keep {H H' : Hp} {a : Addr} {p h : Nat} {os : List Od} (k : TupKeep H H') (q : PartsAt H a p h os) : PartsAt H' a p h os := by
  obtain ⟨t, h1, h2⟩ := q
  exact ⟨t, k _ _ h1, h2.keep k⟩
abbrev s_is_integer : Stmt := top 19
abbrev N_is_integer : List Str := ["value"]
abbrev P_is_integer : List Str := ["value"]
theorem sc_is_integer : FnScope N_is_integer P_is_integer (defScope s_is_integer) := ⟨rfl, rfl, rfl, by decide +kernel, rfl, by decide +kernel, by decide +kernel⟩
abbrev s_is_within : Stmt := top 20
abbrev N_is_within : List Str := ["value", "low", "high"]
abbrev P_is_within : List Str := ["value", "low", "high"]
theorem sc_is_within : FnScope N_is_within P_is_within (defScope s_is_within) := ⟨rfl, rfl, rfl, by decide +kernel, rfl, by decide +kernel, by decide +kernel⟩
abbrev s_is_order : Stmt := top 32
abbrev N_is_order : List Str := ["period", "houses", "order", "source", "target", "first", "days", "delay"]
abbrev P_is_order : List Str := ["period", "houses", "order"]
theorem sc_is_order : FnScope N_is_order P_is_order (defScope s_is_order) := ⟨rfl, rfl, rfl, by decide +kernel, rfl, by decide +kernel, by decide +kernel⟩
abbrev s_check_orders : Stmt := top 33
abbrev N_check_orders : List Str := ["period", "houses", "orders", "index", "order"]
abbrev P_check_orders : List Str := ["period", "houses", "orders"]
theorem sc_check_orders : FnScope N_check_orders P_check_orders (defScope s_check_orders) := ⟨rfl, rfl, rfl, by decide +kernel, rfl, by decide +kernel, by decide +kernel⟩
/-! ### is_within, is_order, check_orders -/
/-- a value that is no int (a bool, or a thing of another built-in type) -/
def NotInt (K : PySem.W.Frag) (H : Hp) (x : V) : Prop := (∃ b, x = .bl b) ∨ ∃ t, TyX K H x (.type t) ∧ kitB t "int" = some false
def Kn (K : PySem.W.Frag) (H : Hp) (x : V) : Prop := (∃ i, x = .int i) ∨ (NotInt K H x ∧ ∀ i, x ≠ .int i)
def withinB (x : V) (lo hi : Int) : Bool := match x with
  | .int v => decide (lo ≤ v) && decide (v ≤ hi)
  | _ => false
theorem Kn.int {K : PySem.W.Frag} {H : Hp} {i : Int} : Kn K H (.int i) := .inl ⟨i, rfl⟩
theorem withinB_no {x : V} {lo hi : Int} (h : ∀ i, x ≠ .int i) : withinB x lo hi = false := by
  unfold withinB
  split
  · rename_i v
    exact absurd rfl (h v)
  · rfl
def isIntB (x : V) : Bool := match x with
  | .int _ => true
  | _ => false
theorem isIntB_no {x : V} (h : ∀ i, x ≠ .int i) : isIntB x = false := by
  unfold isIntB
  split
  · rename_i v
    exact absurd rfl (h v)
  · rfl
def spIsInt (K : PySem.W.Frag) : Sp := fun vs H Q _ => ∃ (x : V), vs = [x] ∧ Kn K H x ∧ Q (.bl (isIntB x)) H
def spWithin (K : PySem.W.Frag) : Sp := fun vs H Q _ => ∃ (x : V) (lo hi : Int), vs = [x, .int lo, .int hi] ∧ Kn K H x ∧ Q (.bl (withinB x lo hi)) H
section
variable {P : Program} {w : World} {K : PySem.W.Frag} {mg : Str → Option Value} {base : Heap}
theorem ok_isint {f : Addr} {fd : FuncData} (F : Fun K "is_integer" "is_integer" s_is_integer f fd) (B : Blt mg) : FnOk P w K mg base CX0 1 f fd P_is_integer (spIsInt K) := by
  refine F.ok sc_is_integer (fun vs H Q E h => ?_) (fun cdv A outer s H vs Q E hr h => ?_)
  · obtain ⟨x, rfl, _⟩ := h
    rfl
  · obtain ⟨x, rfl, hk, q⟩ := h
    refine ⟨_, pss_one (ps_ret (pe_and (pe_callB call_isi (by rfl) B.isi PyProof.Rows.boot_isinstance (pa_cons (pv 0) (pa_cons (pe_bltn (v := .ty "int") (by rfl) B.int (by decide +kernel) rfl) pa_nil)))
      (pe_one (pe_not (pe_callB call_isi (by rfl) B.isi PyProof.Rows.boot_isinstance (pa_cons (pv 0) (pa_cons (pe_bltn (v := .ty "bool") (by rfl) B.bool (by decide +kernel) rfl) pa_nil))))))), ?_⟩
    rcases hk with ⟨v, rfl⟩ | ⟨⟨b, rfl⟩ | ⟨t, ty, kt⟩, hne⟩
    · refine ⟨_, rfl, _, _, _, _, true, rfl, .ty "int", .base (.int v), kit_ty (by decide +kernel), _, rfl, iteT ?_⟩
      exact ⟨_, rfl, _, _, _, _, false, rfl, .ty "bool", .base (.int v), kit_ty (by decide +kernel), _, rfl, q⟩
    · refine ⟨_, rfl, _, _, _, _, true, rfl, .ty "int", .base (.bl b), kit_ty (by decide +kernel), _, rfl, iteT ?_⟩
      exact ⟨_, rfl, _, _, _, _, true, rfl, .ty "bool", .base (.bl b), kit_ty (by decide +kernel), _, rfl, q⟩
    · rw [isIntB_no hne] at q
      exact ⟨_, rfl, _, _, _, _, false, rfl, .ty "int", ty, kit_ty kt, _, rfl, iteF q⟩
theorem ok_within {f : Addr} {fd : FuncData} (F : Fun K "is_within" "is_within" s_is_within f fd) (DI : Df P w K mg base "is_integer" 1 P_is_integer (spIsInt K)) : FnOk P w K mg base CX0 2 f fd P_is_within (spWithin K) := by
  obtain ⟨fI, fdI, gI, KI, bI, GI⟩ := DI
  refine F.ok sc_is_within (fun vs H Q E h => ?_) (fun cdv A outer s H vs Q E hr h => ?_)
  · obtain ⟨x, lo, hi, rfl, _⟩ := h
    rfl
  · obtain ⟨x, lo, hi, rfl, hk, q⟩ := h
    refine ⟨_, pss_one (ps_ret (pe_and (pe_call GI hr (by rfl) gI KI bI .nil pass0 (pa_cons (pv 0) pa_nil))
      (pe_one (pe_chain op_le op_le (pv 1) (pv 0) (pv 2))))), ?_⟩
    refine ⟨_, rfl, x, rfl, hk, ?_⟩
    cases x with
    | int v =>
      refine ⟨_, rfl, iteT ?_⟩
      refine ⟨_, rfl, _, rfl, _, _, rfl, rfl, _, rfl, ite2 (fun e => ?_) (fun e => ?_)⟩
      · refine ⟨_, rfl, _, _, rfl, rfl, ?_⟩
        have q2 : Q (.bl (decide (lo ≤ v) && decide (v ≤ hi))) H := q
        rw [e, Bool.true_and] at q2
        exact q2
      · have q2 : Q (.bl (decide (lo ≤ v) && decide (v ≤ hi))) H := q
        rw [Bool.eq_false_iff.mpr e, Bool.false_and] at q2
        exact q2
    | _ => exact ⟨_, rfl, iteF q⟩
end
/-- what is_order says of the values of a tuple -/
def orderB (p h : Int) : List V → Bool
  | [s, t, f, n, e] => withinB s 0 (h - 1) && (withinB t 0 (h - 1) && (!decide (s = t) && (withinB f 0 (p - 1) && (withinB n 1 p && withinB e 1 9))))
  | _ => false
theorem within_nat {v lo hi : Nat} (h1 : lo ≤ v) (h2 : v ≤ hi) : withinB (.int v) lo hi = true := by
  show (decide ((lo : Int) ≤ v) && decide ((v : Int) ≤ hi)) = true
  rw [decide_eq_true (by omega), decide_eq_true (by omega)]
  rfl
theorem orderB_ok {p h : Nat} {o : Od} (k : OdOk p h o) : orderB p h o.vs = true := by
  have a1 := k.s; have a2 := k.t; have a3 := k.st; have a4 := k.f; have a5 := k.n1; have a6 := k.n; have a7 := k.e1; have a8 := k.e
  show (withinB (.int o.s) 0 ((h : Int) - 1) && (withinB (.int o.t) 0 ((h : Int) - 1) && (!decide (V.int o.s = V.int o.t) && (withinB (.int o.f) 0 ((p : Int) - 1) && (withinB (.int o.n) 1 p && withinB (.int o.e) 1 9))))) = true
  have e1 : ((h : Int) - 1) = ((h - 1 : Nat) : Int) := by omega
  have e2 : ((p : Int) - 1) = ((p - 1 : Nat) : Int) := by omega
  rw [e1, e2]
  have b1 : withinB (.int o.s) 0 ((h - 1 : Nat) : Int) = true := within_nat (lo := 0) (by omega) (by omega)
  have b2 : withinB (.int o.t) 0 ((h - 1 : Nat) : Int) = true := within_nat (lo := 0) (by omega) (by omega)
  have b3 : withinB (.int o.f) 0 ((p - 1 : Nat) : Int) = true := within_nat (lo := 0) (by omega) (by omega)
  have b4 : withinB (.int o.n) 1 p = true := within_nat (lo := 1) (by omega) (by omega)
  have b5 : withinB (.int o.e) 1 9 = true := within_nat (lo := 1) (hi := 9) (by omega) (by omega)
  have b6 : decide (V.int (o.s : Int) = V.int o.t) = false := decide_eq_false fun z => a3 (by
    have z2 := V.int.inj z
    omega)
  rw [b1, b2, b3, b4, b5, b6]
  rfl
/-- what may be asked whether it is an order: a tuple of known values, or a thing that is no tuple -/
def OrderLike (K : PySem.W.Frag) (H : Hp) (v : V) (p h : Int) (b : Bool) : Prop :=
  (∃ a xs, v = .ref a ∧ H a = some (.tup xs) ∧ (∀ x ∈ xs, Kn K H x) ∧ b = orderB p h xs) ∨ (∃ t, TyX K H v (.type t) ∧ kitB t "tuple" = some false ∧ b = false)
theorem OrdAt.like {K : PySem.W.Frag} {H : Hp} {v : V} {o : Od} {p h : Nat} (k : OdOk p h o) (q : OrdAt H v o) : OrderLike K H v p h true := by
  obtain ⟨t, rfl, ht⟩ := q
  refine .inl ⟨t, _, rfl, ht, fun x hx => ?_, (orderB_ok k).symm⟩
  unfold Od.vs at hx
  simp only [List.mem_cons, List.not_mem_nil, or_false] at hx
  rcases hx with rfl | rfl | rfl | rfl | rfl <;> exact Kn.int
theorem withinB_int {x : V} {lo hi : Int} (h : withinB x lo hi = true) : ∃ i, x = .int i := by
  cases x <;> first
    | exact ⟨_, rfl⟩
    | cases h
def spIsOrder (K : PySem.W.Frag) : Sp := fun vs H Q _ => ∃ (v : V) (p h : Int) (b : Bool), vs = [.int p, .int h, v] ∧ OrderLike K H v p h b ∧ Q (.bl b) H
section
variable {P : Program} {w : World} {K : PySem.W.Frag} {mg : Str → Option Value} {base : Heap}
theorem ok_is_order {f : Addr} {fd : FuncData} (F : Fun K "is_order" "is_order" s_is_order f fd) (B : Blt mg) (DW : Df P w K mg base "is_within" 2 P_is_within (spWithin K)) (hM : ∃ t, mg "LONGEST_DELAY" = some (.int 9 t)) : FnOk P w K mg base CX0 3 f fd P_is_order (spIsOrder K) := by
  obtain ⟨fW, fdW, gW, kW, bW, GW⟩ := DW
  obtain ⟨tk9, hM⟩ := hM
  refine F.ok sc_is_order (fun vs H Q E h => ?_) (fun cdv A outer s H vs Q E hr h => ?_)
  · obtain ⟨v, p, h, b, rfl, _⟩ := h
    rfl
  · obtain ⟨v, p, h, b, rfl, hl, q⟩ := h
    refine ⟨_, pss_cons (ps_if (PW.pt (pw_or (pt_not (pt_val (pe_callB call_isi (by rfl) B.isi PyProof.Rows.boot_isinstance (pa_cons (pv 2) (pa_cons (pe_bltn (v := .ty "tuple") (by rfl) B.tuple (by decide +kernel) rfl) pa_nil)))))
        (pw_or1 (pt_cmpR op_ne (pe_callB call_len_seq (by rfl) B.len PySem.boot_len (pa_cons (pv 2) pa_nil)) pe_int (nomark _))))) (pss_one (ps_ret pe_bl)) pss_nil)
      (pss_cons (ps_asg (pv 2) (pg_tup (by rfl) (pgs_cons (pg_name (i := 3) sc_is_order.nd rfl (.inl rfl)) (pgs_cons (pg_name (i := 4) sc_is_order.nd rfl (.inl rfl)) (pgs_cons (pg_name (i := 5) sc_is_order.nd rfl (.inl rfl))
        (pgs_cons (pg_name (i := 6) sc_is_order.nd rfl (.inl rfl)) (pgs_cons (pg_name (i := 7) sc_is_order.nd rfl (.inl rfl)) pgs_nil)))))))
      (pss_cons (ps_if (pt_not (PW.pt (pw_and (pt_val (pe_call GW hr (by rfl) gW kW bW .nil pass0 (pa_cons (pv 3) (pa_cons pe_int (pa_cons (pe_op op_sub (pv 1) pe_int) pa_nil)))))
        (pw_and (pt_val (pe_call GW hr (by rfl) gW kW bW .nil pass0 (pa_cons (pv 4) (pa_cons pe_int (pa_cons (pe_op op_sub (pv 1) pe_int) pa_nil)))))
          (pw_and1 (pt_cmpR op_ne (pv 3) (pv 4) (nomark _))))))) (pss_one (ps_ret pe_bl)) pss_nil)
      (pss_one (ps_ret (pe_and (pe_call GW hr (by rfl) gW kW bW .nil pass0 (pa_cons (pv 5) (pa_cons pe_int (pa_cons (pe_op op_sub (pv 0) pe_int) pa_nil))))
        (pe_and (pe_call GW hr (by rfl) gW kW bW .nil pass0 (pa_cons (pv 6) (pa_cons pe_int (pa_cons (pv 0) pa_nil))))
          (pe_one (pe_call GW hr (by rfl) gW kW bW .nil pass0 (pa_cons (pv 7) (pa_cons pe_int (pa_cons (pe_glob (v := .int 9) rfl hM ⟨_, rfl⟩) pa_nil))))))))))), ?_⟩
    rcases hl with ⟨a, xs, rfl, ha, hkn, rfl⟩ | ⟨t, ty, kt, rfl⟩
    · refine ⟨_, rfl, _, _, _, _, true, rfl, .ty "tuple", .base (.tup ha), kit_ty (by decide +kernel), _, rfl, iteF ?_⟩
      refine ⟨_, rfl, a, xs, rfl, .inr (SqT.of ha), rfl, _, rfl, ?_⟩
      refine ite2 (fun e => ?_) (fun e => ?_)
      · have hne : orderB p h xs = false := by
          match xs, e with
          | [], _ => rfl
          | [_], _ => rfl
          | [_, _], _ => rfl
          | [_, _, _], _ => rfl
          | [_, _, _, _], _ => rfl
          | [_, _, _, _, _], e => exact absurd e (by show ¬ (!decide (V.int ((5 : Nat) : Int) = V.int 5)) = true; decide)
          | _ :: _ :: _ :: _ :: _ :: _ :: _, _ => rfl
        rw [hne] at q
        exact q
      · have h5 : xs.length = 5 := by
          by_cases z : xs.length = 5
          · exact z
          · exact absurd (show (!decide (V.int (xs.length : Int) = V.int 5)) = true by
              rw [decide_eq_false (fun z2 => z (by have z3 := V.int.inj z2; omega))]
              rfl) e
        match xs, h5 with
        | [x1, x2, x3, x4, x5], _ =>
          have k1 := hkn x1 (by simp)
          have k2 := hkn x2 (by simp)
          have k3 := hkn x3 (by simp)
          have k4 := hkn x4 (by simp)
          have k5 := hkn x5 (by simp)
          refine ⟨_, rfl, a, _, rfl, SqT.of ha, rfl, _, _, rfl, _, _, rfl, _, _, rfl, _, _, rfl, _, _, rfl, rfl, ?_⟩
          have q2 : Q (.bl (withinB x1 0 (h - 1) && (withinB x2 0 (h - 1) && (!decide (x1 = x2) && (withinB x3 0 (p - 1) && (withinB x4 1 p && withinB x5 1 9)))))) H := q
          refine ⟨_, rfl, _, rfl, _, _, rfl, rfl, x1, 0, h - 1, rfl, k1, _, rfl, ite2 (fun e1 => ?_) (fun e1 => ?_)⟩
          · refine ⟨_, rfl, _, rfl, _, _, rfl, rfl, x2, 0, h - 1, rfl, k2, _, rfl, ite2 (fun e2 => ?_) (fun e2 => ?_)⟩
            · obtain ⟨i1, rfl⟩ := withinB_int e1
              obtain ⟨i2, rfl⟩ := withinB_int e2
              rw [e1, e2, Bool.true_and, Bool.true_and] at q2
              refine ⟨_, rfl, _, rfl, rfl, _, rfl, ?_⟩
              by_cases z : V.int i1 = V.int i2
              · rw [decide_eq_true z] at q2
                rw [decide_eq_true z]
                exact q2
              · rw [decide_eq_false z, Bool.not_false, Bool.true_and] at q2
                rw [decide_eq_false z]
                refine ⟨_, rfl, _, rfl, _, _, rfl, rfl, x3, 0, p - 1, rfl, k3, _, rfl, ite2 (fun e3 => ?_) (fun e3 => ?_)⟩
                · rw [e3, Bool.true_and] at q2
                  refine ⟨_, rfl, _, rfl, x4, 1, p, rfl, k4, _, rfl, ite2 (fun e4 => ?_) (fun e4 => ?_)⟩
                  · rw [e4, Bool.true_and] at q2
                    exact ⟨_, rfl, x5, 1, 9, rfl, k5, q2⟩
                  · rw [Bool.eq_false_iff.mpr e4, Bool.false_and] at q2
                    exact q2
                · rw [Bool.eq_false_iff.mpr e3, Bool.false_and] at q2
                  exact q2
            · rw [e1, Bool.eq_false_iff.mpr e2, Bool.true_and, Bool.false_and] at q2
              exact iteT q2
          · rw [Bool.eq_false_iff.mpr e1, Bool.false_and] at q2
            exact iteT q2
    · exact ⟨_, rfl, _, _, _, _, false, rfl, .ty "tuple", ty, kit_ty kt, _, rfl, iteT q⟩
end
/-! ### walks over an enumerated tuple; check_orders for valid nets; find_followed -/
theorem for_enumT {K : PySem.W.Frag} {a : Addr} {xs : List V} {g : TG} {tb : TS} {D : Ends} {σ : L2.St} {H : Hp} (Pv : Nat → L2.St → Hp → Prop) (h0 : Pv 0 σ H) (hl : ∀ i σ H, Pv i σ H → H a = some (.tup xs))
    (hs : ∀ i x σ H T, xs[i]? = some x → Pv i σ H → H T = none → g (.ref T) σ (upd H T (.tup [.int (i : Nat), x])) fun σ2 H2 => tb { D with nx := Pv (i + 1), ct := Pv (i + 1), bk := D.nx } σ2 H2) (hd : ∀ σ H, Pv xs.length σ H → D.nx σ H) :
    ∃ W : Nat → Nat → L2.St → Hp → Prop, (∃ m, W 0 m σ H) ∧ ∀ i m σ H, W i m σ H →
      ((IteT K a).stop i H ∧ D.nx σ H) ∨ ((IteT K a).go i H ∧ ∃ N : L2.St → Hp → Prop, (∀ σ' H', N σ' H' → ∃ m', m' < m ∧ W (i + 1) m' σ' H') ∧ ∀ x H', (IteT K a).yld i H x H' → g x σ H' fun σ2 H2 => tb { D with nx := N, ct := N, bk := D.nx } σ2 H2) := by
  refine ⟨fun i m σ H => m = xs.length - i ∧ i ≤ xs.length ∧ Pv i σ H, ⟨xs.length, rfl, Nat.zero_le _, h0⟩, ?_⟩
  rintro i m σ H ⟨rfl, hi, p⟩
  have q := hl i σ H p
  by_cases hlt : i < xs.length
  · refine .inr ⟨⟨xs, xs[i], SqT.of q, List.getElem?_eq_getElem hlt⟩, Pv (i + 1), fun σ' H' p' => ⟨xs.length - (i + 1), by omega, rfl, hlt, p'⟩, fun x H' y => ?_⟩
    obtain ⟨T, x', rfl, nT, rfl, f⟩ := y
    obtain rfl : x' = xs[i] := Option.some.inj ((f xs (SqT.of q)).symm.trans (List.getElem?_eq_getElem hlt))
    exact hs i _ σ H T (List.getElem?_eq_getElem hlt) p nT
  · refine .inl ⟨⟨xs, SqT.of q, by omega⟩, hd σ H ?_⟩
    rw [show xs.length = i by omega]
    exact p
def spChkOrders : Sp := fun vs H Q _ => ∃ (t : Addr) (p h : Nat) (os : List Od), vs = [.int p, .int h, .ref t] ∧ NetOk p h os ∧ OrdsTup H t os ∧ ∀ H', Same H H' → Q .non H'
section
variable {P : Program} {w : World} {K : PySem.W.Frag} {mg : Str → Option Value} {base : Heap}
theorem ok_chk_orders {f : Addr} {fd : FuncData} (F : Fun K "check_orders" "check_orders" s_check_orders f fd) (B : Blt mg) (DI : Df P w K mg base "is_order" 3 P_is_order (spIsOrder K)) (hM : ∃ t, mg "MOST_ORDERS" = some (.int 20 t)) : FnOk P w K mg base CX0 4 f fd P_check_orders spChkOrders := by
  obtain ⟨fI, fdI, gI, kI, bI, GI⟩ := DI
  obtain ⟨tk20, hM⟩ := hM
  refine F.ok sc_check_orders (fun vs H Q E h => ?_) (fun cdv A outer s H vs Q E hr h => ?_)
  · obtain ⟨t, p, h, os, rfl, _⟩ := h
    rfl
  · obtain ⟨t, p, h, os, rfl, N, ⟨ts, ht, hP⟩, q⟩ := h
    refine ⟨_, pss_cons (ps_if (pt_not (pt_val (pe_callB call_isi (by rfl) B.isi PyProof.Rows.boot_isinstance (pa_cons (pv 2) (pa_cons (pe_bltn (v := .ty "tuple") (by rfl) B.tuple (by decide +kernel) rfl) pa_nil))))) (pss_one ps_never) pss_nil)
      (pss_one (ps_for PassesOwn.never rfl (pi_enumT (by rfl) B.enum (pa_cons (pv 2) pa_nil)) (pg_tup (by rfl) (pgs_cons (pg_name (i := 3) sc_check_orders.nd rfl (.inl rfl)) (pgs_cons (pg_name (i := 4) sc_check_orders.nd rfl (.inl rfl)) pgs_nil)))
        (pss_one (ps_if (PW.pt (pw_or (pt_cmpR op_eq (pv 3) (pe_glob (v := .int 20) rfl hM ⟨_, rfl⟩) (nomark _)) (pw_or1 (pt_not (pt_val (pe_call GI hr (by rfl) gI kI bI .nil pass0 (pa_cons (pv 0) (pa_cons (pv 1) (pa_cons (pv 4) pa_nil)))))))))
          (pss_one ps_never) pss_nil)))), ?_⟩
    refine ⟨_, rfl, _, _, _, _, true, rfl, .ty "tuple", .base (.tup ht), kit_ty (by decide +kernel), _, rfl, iteF ?_⟩
    refine ⟨_, rfl, t, ts, rfl, ht, for_enumT (K := K) (a := t) (xs := ts) (fun i σ H' => (∃ x y, σ = [some (.int p), some (.int h), some (.ref t), x, y]) ∧ Same H H') ⟨⟨_, _, rfl⟩, .refl H⟩ (fun i σ H' ⟨_, s1⟩ => s1 _ _ ht) ?_ ?_⟩
    · rintro i x σ H1 T hi ⟨⟨x3, x4, rfl⟩, s1⟩ nT
      have s2 := same_upd (o := HO.tup [.int (i : Nat), x]) nT
      have hil : i < ts.length := (List.getElem?_eq_some_iff.mp hi).1
      have hlen := hP.length
      have hlen2 := N.len
      refine ⟨T, _, rfl, SqT.of upd_same, rfl, _, _, rfl, _, _, rfl, rfl, ?_⟩
      refine ⟨_, rfl, rfl, _, rfl, ?_⟩
      have e1 : decide (V.int ((i : Nat) : Int) = V.int 20) = false := decide_eq_false fun z => by
        have z2 := V.int.inj z
        omega
      rw [e1]
      obtain ⟨x', hx', ho⟩ := Paired.get? (i := i) hP (List.getElem?_eq_getElem (by omega))
      obtain rfl : x' = x := Option.some.inj (hx'.symm.trans hi)
      have hk := N.ok _ (List.getElem_mem (by omega : i < os.length))
      exact iteF ⟨_, rfl, _, rfl, _, rfl, x', p, h, true, rfl, OrdAt.like hk (ho.keep (tk_of (s1.trans s2))), _, rfl, iteF ⟨⟨_, _, rfl⟩, s1.trans s2⟩⟩
    · rintro σ H1 ⟨_, s1⟩
      exact q H1 s1
end
/-! the table of the orders that are followed -/
def amongB (p f : Nat) : Nat → Nat → Bool
  | 0, _ => false
  | l + 1, d => amongB p f l d || decide ((f + l) % p = d)
theorem amongB_iff {p f d : Nat} : ∀ l, amongB p f l d = true ↔ among p f l d
  | 0 => ⟨fun h => Bool.noConfusion h, fun h => absurd h (among_zero _ _ _)⟩
  | l + 1 => by
    show (amongB p f l d || decide ((f + l) % p = d)) = true ↔ _
    rw [among_succ, Bool.or_eq_true, amongB_iff l, decide_eq_true_iff]
def cellV (p : Nat) (os : List Od) (s d : Nat) : V := optV (idx p os s (d : Int))
/-- amid the order o, the k-th: its first l days are done -/
def cellM (p : Nat) (os : List Od) (o : Od) (k l s d : Nat) : V := optV ((idx p os s (d : Int)).or (if (decide (s = o.s) && amongB p o.f l d) = true then some k else none))
structure TabAt (H0 H : Hp) (fl : Addr) (p h : Nat) (g : Nat → Nat → V) (as : List Addr) : Prop where
  same : Same H0 H
  len : as.length = h
  fl0 : H0 fl = none
  flat : H fl = some (.lst (as.map V.ref))
  nd : as.Nodup
  out : fl ∉ as
  new : ∀ a ∈ as, H0 a = none
  row : ∀ i a, as[i]? = some a → H a = some (.lst ((List.range p).map (g i)))
theorem TabAt.congr {H0 H : Hp} {fl : Addr} {p h : Nat} {g g' : Nat → Nat → V} {as : List Addr} (T : TabAt H0 H fl p h g as) (e : ∀ s d, s < h → d < p → g s d = g' s d) : TabAt H0 H fl p h g' as := by
  refine { T with row := fun i a hi => ?_ }
  rw [T.row i a hi]
  have hi2 := (List.getElem?_eq_some_iff.mp hi).1
  rw [List.map_congr_left fun d hd => e i d (by rw [← T.len]; exact hi2) (List.mem_range.mp hd)]
theorem TabAt.keep {H0 H H' : Hp} {fl : Addr} {p h : Nat} {g : Nat → Nat → V} {as : List Addr} (T : TabAt H0 H fl p h g as) (s : Same H H') : TabAt H0 H' fl p h g as :=
  { T with same := T.same.trans s, flat := s _ _ T.flat, row := fun i a hi => s _ _ (T.row i a hi) }
theorem range_set {p dd : Nat} {g : Nat → V} {v : V} : ((List.range p).map g).set dd v = (List.range p).map fun d => if d = dd then v else g d := by
  apply List.ext_getElem
  · simp
  · intro i h1 h2
    rw [List.getElem_set]
    simp only [List.getElem_map, List.getElem_range]
    by_cases z : dd = i
    · subst z; simp
    · rw [if_neg z, if_neg (Ne.symm z)]
theorem TabAt.set {H0 H : Hp} {fl a : Addr} {p h s dd : Nat} {g : Nat → Nat → V} {as : List Addr} {v : V} (T : TabAt H0 H fl p h g as) (ha : as[s]? = some a) :
    TabAt H0 (upd H a (.lst (((List.range p).map (g s)).set dd v))) fl p h (fun i d => if i = s ∧ d = dd then v else g i d) as := by
  have ham : a ∈ as := List.mem_of_getElem? ha
  have sl : s < as.length := (List.getElem?_eq_some_iff.mp ha).1
  refine { T with same := fun b o e => ?_, flat := ?_, row := fun i b hi => ?_ }
  · have n : b ≠ a := fun z => by
      have q := T.new a ham
      rw [← z, e] at q
      cases q
    rw [upd_ne n]
    exact T.same _ _ e
  · have n : fl ≠ a := fun z => T.out (by rw [z]; exact ham)
    rw [upd_ne n]
    exact T.flat
  · by_cases z : i = s
    · subst z
      obtain rfl : b = a := Option.some.inj (hi.symm.trans ha)
      rw [upd_same, range_set]
      congr 2
      apply List.map_congr_left
      intro d _
      by_cases z2 : d = dd
      · simp [z2]
      · simp [z2]
    · have n : b ≠ a := fun z2 => by
        subst z2
        have i1 := (List.getElem?_eq_some_iff.mp hi)
        have i2 := (List.getElem?_eq_some_iff.mp ha)
        obtain ⟨l1, e1⟩ := i1
        obtain ⟨l2, e2⟩ := i2
        have pw := List.pairwise_iff_getElem.mp T.nd
        rcases Nat.lt_or_gt_of_ne z with q | q
        · exact pw i s l1 l2 q (e1.trans e2.symm)
        · exact pw s i l2 l1 q (e2.trans e1.symm)
      rw [upd_ne n, T.row i b hi]
      congr 2
      apply List.map_congr_left
      intro d _
      rw [if_neg (fun q => z q.1)]
def spFollowed : Sp := fun vs H Q _ => ∃ (t : Addr) (p h : Nat) (os : List Od), vs = [.int p, .int h, .ref t] ∧ NetOk p h os ∧ OrdsTup H t os ∧ ∀ H' fl as, TabAt H H' fl p h (cellV p os) as → Q (.ref fl) H'
theorem rep_flat {p : Nat} {v : V} : (List.replicate p [v]).flatten = List.replicate p v := by
  induction p with
  | zero => rfl
  | succ n ih => rw [List.replicate_succ, List.flatten_cons, ih]; rfl
theorem rep_range {p : Nat} {v : V} : List.replicate p v = (List.range p).map fun _ => v := by
  rw [List.map_const', List.length_range]
theorem optV_non {o : Option Nat} (h : optV o = .non) : o = none := by
  cases o with
  | none => rfl
  | some k => cases h
theorem cellM_hit {p i l s d : Nat} {os : List Od} {o : Od} (h : cellM p os o i l o.s ((o.f + l) % p) = .non) :
    (if s = o.s ∧ d = (o.f + l) % p then V.int (i : Nat) else cellM p os o i l s d) = cellM p os o i (l + 1) s d := by
  unfold cellM at *
  by_cases c : s = o.s ∧ d = (o.f + l) % p
  · rw [if_pos c]
    obtain ⟨c1, c2⟩ := c
    subst c1 c2
    have z := optV_non h
    rw [Option.or_eq_none_iff] at z
    rw [z.1]
    have e : (decide (o.s = o.s) && amongB p o.f (l + 1) ((o.f + l) % p)) = true := by
      rw [decide_eq_true rfl, Bool.true_and]
      exact (amongB_iff (l + 1)).mpr (among_succ.mpr (.inr rfl))
    rw [if_pos e]
    rfl
  · rw [if_neg c]
    have e : (decide (s = o.s) && amongB p o.f l d) = (decide (s = o.s) && amongB p o.f (l + 1) d) := by
      by_cases c1 : s = o.s
      · have c2 : ¬ (o.f + l) % p = d := fun z => c ⟨c1, z.symm⟩
        show _ = (_ && (amongB p o.f l d || decide ((o.f + l) % p = d)))
        rw [decide_eq_false c2, Bool.or_false]
      · rw [decide_eq_false c1, Bool.false_and, Bool.false_and]
    rw [e]
theorem cellM_miss {p i l s d : Nat} {os : List Od} {o : Od} (h : cellM p os o i l o.s ((o.f + l) % p) ≠ .non) : cellM p os o i l s d = cellM p os o i (l + 1) s d := by
  by_cases c : s = o.s ∧ d = (o.f + l) % p
  · obtain ⟨c1, c2⟩ := c
    subst c1 c2
    unfold cellM at *
    have e : (decide (o.s = o.s) && amongB p o.f (l + 1) ((o.f + l) % p)) = true := by
      rw [decide_eq_true rfl, Bool.true_and]
      exact (amongB_iff (l + 1)).mpr (among_succ.mpr (.inr rfl))
    rw [if_pos e]
    cases q : idx p os o.s ((o.f + l) % p : Nat) with
    | some k => rfl
    | none =>
      rw [q] at h
      by_cases c : (decide (o.s = o.s) && amongB p o.f l ((o.f + l) % p)) = true
      · rw [if_pos c]
      · rw [if_neg c] at h
        exact absurd rfl h
  · unfold cellM
    have e : (decide (s = o.s) && amongB p o.f l d) = (decide (s = o.s) && amongB p o.f (l + 1) d) := by
      by_cases c1 : s = o.s
      · have c2 : ¬ (o.f + l) % p = d := fun z => c ⟨c1, z.symm⟩
        show _ = (_ && (amongB p o.f l d || decide ((o.f + l) % p = d)))
        rw [decide_eq_false c2, Bool.or_false]
      · rw [decide_eq_false c1, Bool.false_and, Bool.false_and]
    rw [e]
theorem cellM_end {p h i s d : Nat} {os : List Od} {o : Od} (k : OdOk p h o) (hi : os[i]? = some o) (hd : d < p) : cellM p (os.take i) o i o.n s d = cellV p (os.take (i + 1)) s d := by
  unfold cellM cellV
  rw [idx_take_succ hi]
  have e : (decide (s = o.s) && amongB p o.f o.n d) = hit p s (d : Int) o := by
    unfold hit
    have e1 : amongB p o.f o.n d = onDay p o (d : Int) := by
      rw [Bool.eq_iff_iff, amongB_iff, among_on k hd]
    rw [e1]
    by_cases c : s = o.s
    · rw [decide_eq_true c, decide_eq_true c.symm]
    · rw [decide_eq_false c, decide_eq_false fun z => c z.symm]
  rw [e]
abbrev s_find_followed : Stmt := top 34
abbrev N_find_followed : List Str := ["period", "houses", "orders", "followed", "index", "source", "target", "first", "days", "delay", "later", "day", "house"]
abbrev P_find_followed : List Str := ["period", "houses", "orders"]
theorem sc_find_followed : FnScope N_find_followed P_find_followed (defScope s_find_followed) := ⟨rfl, rfl, rfl, by decide +kernel, rfl, by decide +kernel, by decide +kernel⟩
section
variable {P : Program} {w : World} {K : PySem.W.Frag} {mg : Str → Option Value} {base : Heap}
theorem ok_followed {f : Addr} {fd : FuncData} (F : Fun K "find_followed" "find_followed" s_find_followed f fd) (B : Blt mg) : FnOk P w K mg base CX0 2 f fd P_find_followed spFollowed := by
  refine F.ok sc_find_followed (fun vs H Q E h => ?_) (fun cdv A outer s H vs Q E hr h => ?_)
  · obtain ⟨t, p, h, os, rfl, _⟩ := h
    rfl
  · obtain ⟨t, p, h, os, rfl, N, hO, q⟩ := h
    obtain ⟨ts, ht, hP⟩ := id hO
    have p1 := N.p1; have p30 := N.p30; have h1 := N.h1; have h10 := N.h10; have ol := N.len
    refine ⟨_, pss_cons (ps_setLc (i := 3) (own := [("house", 12)]) (g := gName 12) (tt := tYes) (by rfl) sc_find_followed.nd rfl rfl (sw_true rfl rfl rfl (by decide +kernel))
          (pi_range1 rfl B.range (pa_cons (pv 1) pa_nil)) (blkOk_by (N := N_find_followed) (sc := defScope s_find_followed) (by decide +kernel)) (fun _ _ _ _ _ => pg_name (i := 12) sc_find_followed.nd rfl (.inl rfl)) (fun _ _ _ _ _ => pts_nil)
          (fun _ _ _ _ _ => pe_op op_rep (pe_lst (pa_cons pe_non pa_nil)) (pv 0)))
      (pss_cons (ps_for PassesOwn.never rfl (pi_enumT (by rfl) B.enum (pa_cons (pv 2) pa_nil)) (pg_tup (by rfl) (pgs_cons (pg_name (i := 4) sc_find_followed.nd rfl (.inl rfl)) (pgs_cons (pg_tup (by rfl)
            (pgs_cons (pg_name (i := 5) sc_find_followed.nd rfl (.inl rfl)) (pgs_cons (pg_name (i := 6) sc_find_followed.nd rfl (.inl rfl)) (pgs_cons (pg_name (i := 7) sc_find_followed.nd rfl (.inl rfl)) (pgs_cons (pg_name (i := 8) sc_find_followed.nd rfl (.inl rfl)) (pgs_cons (pg_name (i := 9) sc_find_followed.nd rfl (.inl rfl)) pgs_nil)))))) pgs_nil)))
        (pss_one (ps_for PassesOwn.never rfl (pi_range1 rfl B.range (pa_cons (pv 8) pa_nil)) (pg_name (i := 10) sc_find_followed.nd rfl (.inl rfl))
          (pss_cons (ps_set (i := 11) sc_find_followed.nd rfl (.inl rfl) (pe_op op_modN (pe_op op_add (pv 7) (pv 10)) (pv 0)))
          (pss_one (ps_if (pt_cmpR op_isN (pe_ix ix_list (pe_ix ix_list (pv 3) (pv 5) (fun _ _ => rfl)) (pv 11) (fun _ _ => rfl)) pe_non (nomark _))
            (pss_one (ps_asg (pv 4) (pg_sub (pe_ix ix_list (pv 3) (pv 5) (fun _ _ => rfl)) (pv 11) set_list))) pss_nil))))))
      (pss_one (ps_ret (pv 3)))), ?_⟩
    -- the empty table
    refine ⟨_, rfl, h, rfl, by omega, by omega, fun D nD => ?_⟩
    refine lc_range (lo := 0) (n := (h : Int).toNat) (fun i H' => ∃ as, TabAt H H' D p i (fun _ _ => .non) as) ⟨[], same_upd nD, rfl, nD, upd_same, List.nodup_nil, by simp, by simp, fun i a z => by simp at z⟩ ?_ ?_
    · rintro i H' hi ⟨as, T⟩
      refine ⟨rfl, Nat.le_trans (by decide : 1 ≤ 1000) (Nat.le_of_lt (small1000 (Nat.le_refl _))), fun l0 nl0 => ?_⟩
      have T1 := T.keep (same_upd (o := HO.lst [V.non]) nl0)
      refine ⟨_, rfl, l0, p, [.non], rfl, rfl, upd_same, by omega, by omega, Nat.le_of_lt (small1000 (by show 1 * (p : Int).toNat ≤ 1000; omega)), fun r nr => ?_⟩
      have T2 := T1.keep (same_upd (o := HO.lst (List.replicate (p : Int).toNat [V.non]).flatten) nr)
      have fD := T2.flat
      refine ⟨_, fD, small1000 (by rw [List.length_map, T.len]; omega), as ++ [r], ?_⟩
      have nrD : r ≠ D := (ne_of_none T1.flat nr).symm
      have nas : r ∉ as := fun z => by
        obtain ⟨j, hj⟩ := List.getElem?_of_mem z
        exact ne_of_none (T1.row j r hj) nr rfl
      have nr0 : H r = none := T1.same.free nr
      refine ⟨fun b o e => ?_, by rw [List.length_append, T.len]; rfl, T.fl0, ?_, ?_, ?_, ?_, ?_⟩
      · rw [upd_ne (ne_of_none e T.fl0)]
        exact T2.same _ _ e
      · rw [upd_same, List.map_append]
        rfl
      · rw [List.nodup_append]
        exact ⟨T.nd, by simp, fun a ha b hb => by rw [List.mem_singleton.mp hb]; exact fun z => nas (z ▸ ha)⟩
      · intro z
        rcases List.mem_append.mp z with z | z
        · exact T.out z
        · exact nrD (List.mem_singleton.mp z).symm
      · intro a ha
        rcases List.mem_append.mp ha with z | z
        · exact T.new a z
        · rw [List.mem_singleton.mp z]
          exact nr0
      · intro j a hj
        by_cases z : j < as.length
        · rw [List.getElem?_append_left z] at hj
          have hn : a ≠ D := fun z2 => T.out (by rw [← z2]; exact List.mem_of_getElem? hj)
          rw [upd_ne hn]
          exact T2.row j a hj
        · rw [List.getElem?_append_right (by omega)] at hj
          obtain ⟨hj1, hj2⟩ := List.getElem?_eq_some_iff.mp hj
          have e0 : j - as.length = 0 := by
            have : j - as.length < 1 := hj1
            omega
          have ea : a = r := by
            rw [e0] at hj
            exact (Option.some.inj hj).symm
          rw [ea, upd_ne nrD, upd_same, rep_flat, rep_range]
          rfl
    · rintro H1 ⟨as, T⟩
      have hO1 : H1 t = some (.tup ts) := T.same _ _ ht
      -- each order
      refine ⟨_, rfl, t, ts, rfl, hO1, for_enumT (K := K) (a := t) (xs := ts) (fun i σ H' => (∃ x4 x5 x6 x7 x8 x9 x10 x11, σ = [some (.int p), some (.int h), some (.ref t), some (.ref D), x4, x5, x6, x7, x8, x9, x10, x11, none]) ∧ TabAt H H' D p h (cellV p (os.take i)) as)
        ⟨⟨_, _, _, _, _, _, _, _, rfl⟩, by exact T.congr fun s d _ _ => rfl⟩ (fun i σ H' ⟨_, T'⟩ => T'.same _ _ ht) ?_ ?_⟩
      · rintro i x σ H2 X hi ⟨⟨x4, x5, x6, x7, x8, x9, x10, x11, rfl⟩, T2⟩ nX
        have T3 := T2.keep (same_upd (o := HO.tup [.int (i : Nat), x]) nX)
        have hil : i < ts.length := (List.getElem?_eq_some_iff.mp hi).1
        have hlen := hP.length
        have hio : os[i]? = some (os[i]'(by omega)) := List.getElem?_eq_getElem (by omega)
        obtain ⟨x', hx', y, rfl, hy⟩ := Paired.get? (i := i) hP hio
        obtain rfl : V.ref y = x := Option.some.inj (hx'.symm.trans hi)
        generalize eo : os[i]'(by omega) = o at hio hy
        have hk : OdOk p h o := by rw [← eo]; exact N.ok _ (List.getElem_mem _)
        have k1 := hk.s; have k4 := hk.f; have k5 := hk.n1; have k6 := hk.n
        have hy3 := T3.same _ _ hy
        refine ⟨X, _, rfl, SqT.of upd_same, rfl, _, _, rfl, _, _, rfl, ⟨y, _, rfl, SqT.of hy3, rfl, _, _, rfl, _, _, rfl, _, _, rfl, _, _, rfl, _, _, rfl, rfl, rfl, ?_⟩⟩
        refine ⟨_, rfl, o.n, rfl, by omega, by omega, for_range (lo := 0) (n := (o.n : Int).toNat) (fun l σ H' => (∃ x10 x11, σ = [some (.int p), some (.int h), some (.ref t), some (.ref D), some (.int (i : Nat)), some (.int o.s), some (.int o.t), some (.int o.f), some (.int o.n), some (.int o.e), x10, x11, none]) ∧ TabAt H H' D p h (cellM p (os.take i) o i l) as)
          ⟨⟨_, _, rfl⟩, T3.congr fun s d _ _ => ?_⟩ ?_ ?_⟩
        · show optV (idx p (os.take i) s d) = optV ((idx p (os.take i) s d).or (if (decide (s = o.s) && false) = true then some i else none))
          rw [Bool.and_false, if_neg Bool.false_ne_true, Option.or_none]
        · rintro l σ H4 hl ⟨⟨x10, x11, rfl⟩, T4⟩
          have hl2 : l < o.n := by omega
          refine ⟨_, rfl, _, rfl, _, _, rfl, rfl, _, rfl, _, _, rfl, rfl, by omega, ?_⟩
          have ed : Int.fmod ((o.f : Int) + (0 + (l : Int))) (p : Int) = (((o.f + l) % p : Nat) : Int) := by
            rw [Int.zero_add]
            exact fmod_nat (o.f + l) p
          have hd : (o.f + l) % p < p := Nat.mod_lt _ (by omega)
          generalize hdd : (o.f + l) % p = dd at ed hd
          have hsl : o.s < as.length := by rw [T4.len]; exact k1
          have ha := List.getElem?_eq_getElem hsl
          generalize as[o.s] = a at ha
          have hmap : (as.map V.ref)[o.s]? = some (.ref a) := by rw [List.getElem?_map, ha]; rfl
          have hrow := T4.row _ _ ha
          have hcell : ((List.range p).map (cellM p (os.take i) o i l o.s))[dd]? = some (cellM p (os.take i) o i l o.s dd) := by
            rw [List.getElem?_map, List.getElem?_range hd]
            rfl
          show ∃ v, _
          refine ⟨_, rfl, _, rfl, D, _, _, _, rfl, rfl, SqL.of T4.flat, atI_nat hmap, ?_⟩
          refine ⟨_, rfl, a, _, (dd : Int), _, rfl, by rw [← ed], SqL.of hrow, atI_nat hcell, ?_⟩
          refine ⟨rfl, _, rfl, ite2 (fun e => ?_) (fun e => ?_)⟩
          · have en : cellM p (os.take i) o i l o.s dd = .non := of_decide_eq_true e
            refine ⟨_, rfl, _, rfl, _, rfl, D, _, _, _, rfl, rfl, SqL.of T4.flat, atI_nat hmap, ?_⟩
            refine ⟨_, rfl, a, _, (dd : Int), dd, rfl, by rw [← ed], hrow, ix_at (by rw [List.length_map, List.length_range]; exact hd), ?_⟩
            refine ⟨⟨_, _, rfl⟩, (T4.set ha).congr fun s d hs hd2 => ?_⟩
            subst hdd
            exact cellM_hit en
          · refine ⟨⟨_, _, rfl⟩, T4.congr fun s d hs hd2 => ?_⟩
            subst hdd
            exact cellM_miss (fun z => e (decide_eq_true z))
        · rintro σ H4 ⟨⟨x10, x11, rfl⟩, T4⟩
          exact ⟨⟨_, _, _, _, _, _, _, _, rfl⟩, T4.congr fun s d hs hd => cellM_end hk hio hd⟩
      · rintro σ H2 ⟨⟨x4, x5, x6, x7, x8, x9, x10, x11, rfl⟩, T2⟩
        refine ⟨_, rfl, q _ D as (T2.congr fun s d _ _ => ?_)⟩
        rw [List.take_of_length_le (by rw [← hP.length]; exact Nat.le_refl _)]
end
abbrev s_Net_init : Stmt := inClass (top 31) 0
abbrev N_Net_init : List Str := ["self", "period", "houses", "orders"]
abbrev P_Net_init : List Str := ["self", "period", "houses", "orders"]
theorem sc_Net_init : FnScope N_Net_init P_Net_init (defScope s_Net_init) := ⟨rfl, rfl, rfl, by decide +kernel, rfl, by decide +kernel, by decide +kernel⟩
/-! ### a net, made and read -/
def NetFs (p h : Nat) (t fl : Addr) : List (Str × V) := putF "followed" (.ref fl) (putF "orders" (.ref t) (putF "houses" (.int h) (putF "period" (.int p) [])))
theorem sFO : ¬ ("orders" : Str) = "followed" := by decide +kernel
theorem sFH : ¬ ("houses" : Str) = "followed" := by decide +kernel
theorem sFP : ¬ ("period" : Str) = "followed" := by decide +kernel
theorem sOH : ¬ ("houses" : Str) = "orders" := by decide +kernel
theorem sOP : ¬ ("period" : Str) = "orders" := by decide +kernel
theorem sHP : ¬ ("period" : Str) = "houses" := by decide +kernel
theorem nf_fl {p h : Nat} {t fl : Addr} : (NetFs p h t fl).lookup ("followed" : Str) = some (.ref fl) := by
  unfold NetFs
  rw [lookup_putF, if_pos rfl]
theorem nf_or {p h : Nat} {t fl : Addr} : (NetFs p h t fl).lookup ("orders" : Str) = some (.ref t) := by
  unfold NetFs
  rw [lookup_putF, if_neg sFO, lookup_putF, if_pos rfl]
theorem nf_ho {p h : Nat} {t fl : Addr} : (NetFs p h t fl).lookup ("houses" : Str) = some (.int h) := by
  unfold NetFs
  rw [lookup_putF, if_neg sFH, lookup_putF, if_neg sOH, lookup_putF, if_pos rfl]
theorem nf_pe {p h : Nat} {t fl : Addr} : (NetFs p h t fl).lookup ("period" : Str) = some (.int p) := by
  unfold NetFs
  rw [lookup_putF, if_neg sFP, lookup_putF, if_neg sOP, lookup_putF, if_neg sHP, lookup_putF, if_pos rfl]
theorem nf_no {p h : Nat} {t fl : Addr} {m : Str} (h1 : ¬ m = "followed") (h2 : ¬ m = "orders") (h3 : ¬ m = "houses") (h4 : ¬ m = "period") : (NetFs p h t fl).lookup m = none := by
  unfold NetFs
  rw [lookup_putF, if_neg h1, lookup_putF, if_neg h2, lookup_putF, if_neg h3, lookup_putF, if_neg h4]
  rfl
/-- what the class says -/
structure NetT (K : PySem.W.Frag) (C : Addr) : Prop where
  cl : Cls K C
  nP : NoAttr K C "period"
  nH : NoAttr K C "houses"
  nO : NoAttr K C "orders"
  nF : NoAttr K C "followed"
/-- a net of these parts at x; F: its own addresses -/
def NetAt (C : Addr) (H : Hp) (x : Addr) (p h : Nat) (os : List Od) (t : Addr) (F : List Addr) : Prop := ∃ dx fl as, F = x :: fl :: as ∧ H x = some (.ins C dx (NetFs p h t fl)) ∧ OrdsTup H t os ∧
  H fl = some (.lst (as.map V.ref)) ∧ as.length = h ∧ ∀ i a, as[i]? = some a → H a = some (.lst ((List.range p).map (cellV p os i)))
theorem NetAt.keep {C : Addr} {H H' : Hp} {x : Addr} {p h : Nat} {os : List Od} {t : Addr} {F : List Addr} (N : NetAt C H x p h os t F) (k : TupKeep H H') (kf : ∀ b ∈ F, ∀ o, H b = some o → H' b = some o) : NetAt C H' x p h os t F := by
  obtain ⟨dx, fl, as, rfl, h1, h2, h3, h4, h5⟩ := N
  refine ⟨dx, fl, as, rfl, kf _ (by simp) _ h1, h2.keep k, kf _ (by simp) _ h3, h4, fun i a hi => kf _ ?_ _ (h5 i a hi)⟩
  exact List.mem_cons_of_mem _ (List.mem_cons_of_mem _ (List.mem_of_getElem? hi))
theorem NetAt.same {C : Addr} {H H' : Hp} {x : Addr} {p h : Nat} {os : List Od} {t : Addr} {F : List Addr} (N : NetAt C H x p h os t F) (s : Same H H') : NetAt C H' x p h os t F := N.keep (tk_of s) fun b _ o e => s b o e
theorem NetAt.but {C : Addr} {H H' : Hp} {x : Addr} {p h : Nat} {os : List Od} {t d : Addr} {F : List Addr} (N : NetAt C H x p h os t F) (s : But d H H') (k : TupKeep H H') (n : d ∉ F) : NetAt C H' x p h os t F := N.keep k fun b hb o e => s b o (fun z => n (z ▸ hb)) e
theorem NetAt.new {C : Addr} {H : Hp} {x : Addr} {p h : Nat} {os : List Od} {t u : Addr} {F : List Addr} (N : NetAt C H x p h os t F) (n : H u = none) : u ∉ F := by
  obtain ⟨dx, fl, as, rfl, h1, h2, h3, h4, h5⟩ := N
  intro z
  rcases List.mem_cons.mp z with z | z
  · exact ne_of_none h1 n z.symm
  rcases List.mem_cons.mp z with z | z
  · exact ne_of_none h3 n z.symm
  obtain ⟨j, hj⟩ := List.getElem?_of_mem z
  exact ne_of_none (h5 j u hj) n rfl
def spInit (C : Addr) : Sp := fun vs H Q _ => ∃ (x dx t : Addr) (p h : Nat) (os : List Od) (H0 : Hp), vs = [.ref x, .int p, .int h, .ref t] ∧ NetOk p h os ∧ OrdsTup H t os ∧ Same H0 H ∧ H0 x = none ∧ H x = some (.ins C dx []) ∧
  ∀ H' F, Same H0 H' → (∀ b ∈ F, H0 b = none) → NetAt C H' x p h os t F → Q .non H'
section
variable {P : Program} {w : World} {K : PySem.W.Frag} {mg : Str → Option Value} {base : Heap}
theorem ok_init {f C : Addr} {fd : FuncData} (F : Fun K "__init__" "Net.__init__" s_Net_init f fd) (T : NetT K C) (DW : Df P w K mg base "is_within" 2 P_is_within (spWithin K)) (DC : Df P w K mg base "check_orders" 4 P_check_orders spChkOrders)
    (DF : Df P w K mg base "find_followed" 2 P_find_followed spFollowed) (hP : ∃ t, mg "LONGEST_PERIOD" = some (.int 30 t)) (hH : ∃ t, mg "MOST_HOUSES" = some (.int 10 t)) : FnOk P w K mg base CX0 5 f fd P_Net_init (spInit C) := by
  obtain ⟨fW, fdW, gW, kW, bW, GW⟩ := DW
  obtain ⟨fC, fdC, gC, kC, bC, GC⟩ := DC
  obtain ⟨fF, fdF, gF, kF, bF, GF⟩ := DF
  obtain ⟨tkP, hP⟩ := hP
  obtain ⟨tkH, hH⟩ := hH
  refine F.ok sc_Net_init (fun vs H Q E h => ?_) (fun cdv A outer s H vs Q E hr h => ?_)
  · obtain ⟨x, dx, t, p, h, os, H0, rfl, _⟩ := h
    rfl
  · obtain ⟨x, dx, t, p, h, os, H0, rfl, N, hO, s0, x0, hx, q⟩ := h
    have hr1 : Room 2 _ := hr.mono (by decide)
    refine ⟨_, pss_cons (ps_if (pt_not (pt_val (pe_call GW hr1 (by rfl) gW kW bW .nil pass0 (pa_cons (pv 1) (pa_cons pe_int (pa_cons (pe_glob (v := .int 30) rfl hP ⟨_, rfl⟩) pa_nil)))))) (pss_one ps_never) pss_nil)
      (pss_cons (ps_if (pt_not (pt_val (pe_call GW hr1 (by rfl) gW kW bW .nil pass0 (pa_cons (pv 2) (pa_cons pe_int (pa_cons (pe_glob (v := .int 10) rfl hH ⟨_, rfl⟩) pa_nil)))))) (pss_one ps_never) pss_nil)
      (pss_cons (ps_expr (pe_call GC hr (by rfl) gC kC bC .nil pass0 (pa_cons (pv 1) (pa_cons (pv 2) (pa_cons (pv 3) pa_nil)))))
      (pss_cons (ps_fld (pv 0) (pv 1) rfl) (pss_cons (ps_fld (pv 0) (pv 2) rfl) (pss_cons (ps_fld (pv 0) (pv 3) rfl)
      (pss_one (ps_fld (pv 0) (pe_call GF hr1 (by rfl) gF kF bF .nil pass0 (pa_cons (pv 1) (pa_cons (pv 2) (pa_cons (pv 3) pa_nil)))) rfl))))))), ?_⟩
    have w1 : withinB (.int p) 1 30 = true := within_nat (lo := 1) (hi := 30) N.p1 N.p30
    have w2 : withinB (.int h) 1 10 = true := within_nat (lo := 1) (hi := 10) N.h1 N.h10
    refine ⟨_, rfl, .int p, 1, 30, rfl, .int, _, rfl, ?_⟩
    rw [w1]
    refine iteF ⟨_, rfl, .int h, 1, 10, rfl, .int, _, rfl, ?_⟩
    rw [w2]
    refine iteF ⟨_, rfl, _, rfl, _, rfl, t, p, h, os, rfl, N, hO, fun H1 s1 => ?_⟩
    have hx1 := s1 _ _ hx
    have nt : t ≠ x := by
      obtain ⟨ts, ht, _⟩ := hO
      exact ne_of ht hx (by intro z; cases z)
    refine ⟨_, rfl, _, rfl, x, C, dx, [], rfl, hx1, T.cl, T.nP, (by show 0 < 1000; decide), ?_⟩
    refine ⟨_, rfl, _, rfl, x, C, dx, _, rfl, upd_same, T.cl, T.nH, (by show 1 < 1000; decide), ?_⟩
    refine ⟨_, rfl, _, rfl, x, C, dx, _, rfl, upd_same, T.cl, T.nO, ?_, ?_⟩
    · show (putF "houses" _ (putF "period" _ [])).length < 1000
      have : (putF "houses" (.int (h : Int)) (putF "period" (.int (p : Int)) [])).length ≤ 2 := by
        show (if ("period" : Str) = "houses" then _ else _ : List (Str × V)).length ≤ 2
        rw [if_neg sHP]
        exact Nat.le_refl _
      omega
    rw [upd_upd, upd_upd]
    refine ⟨_, rfl, _, rfl, _, rfl, t, p, h, os, rfl, N, ?_, fun H2 fl as TT => ?_⟩
    · refine hO.keep fun b xs e => ?_
      have e1 := s1 _ _ e
      rw [upd_ne (ne_of e1 hx1 (by intro z; cases z))]
      exact e1
    have hx2 := TT.same _ _ (upd_same (H := H1) (a := x))
    have hflx : fl ≠ x := fun z => by
      have q1 := TT.fl0
      rw [z, upd_same] at q1
      cases q1
    have hasx : ∀ a ∈ as, a ≠ x := fun a ha z => by
      have q1 := TT.new a ha
      rw [z, upd_same] at q1
      cases q1
    refine ⟨_, rfl, x, C, dx, _, rfl, hx2, T.cl, T.nF, ?_, ?_⟩
    · show (putF "orders" _ (putF "houses" _ (putF "period" _ []))).length < 1000
      have : (putF "orders" (.ref t) (putF "houses" (.int (h : Int)) (putF "period" (.int (p : Int)) []))).length ≤ 3 := by
        show (putF "orders" (V.ref t) (if ("period" : Str) = "houses" then _ else _ : List (Str × V))).length ≤ 3
        rw [if_neg sHP]
        show (if ("period" : Str) = "orders" then _ else _ :: (if ("houses" : Str) = "orders" then _ else _) : List (Str × V)).length ≤ 3
        rw [if_neg sOP, if_neg sOH]
        exact Nat.le_refl _
      omega
    have free : ∀ b, b ≠ x → (L2.upd H1 x (.ins C dx (putF "orders" (.ref t) (putF "houses" (.int (h : Int)) (putF "period" (.int (p : Int)) []))))) b = none → H0 b = none := fun b nb e => by
      rw [upd_ne nb] at e
      exact s0.free (s1.free e)
    refine q _ (x :: fl :: as) (fun b o e => ?_) (fun b hb => ?_) ⟨dx, fl, as, rfl, upd_same, ?_, ?_, TT.len, fun i a hi => ?_⟩
    · have nb : b ≠ x := ne_of_none e x0
      rw [upd_ne nb]
      refine TT.same _ _ ?_
      rw [upd_ne nb]
      exact s1 _ _ (s0 _ _ e)
    · rcases List.mem_cons.mp hb with z | z
      · rw [z]; exact x0
      rcases List.mem_cons.mp z with z | z
      · rw [z]; exact free fl hflx TT.fl0
      · exact free b (hasx b z) (TT.new b z)
    · refine hO.keep fun b xs e => ?_
      have e1 := s1 _ _ e
      have nb : b ≠ x := ne_of e1 hx1 (by intro z; cases z)
      rw [upd_ne nb]
      refine TT.same _ _ ?_
      rw [upd_ne nb]
      exact e1
    · rw [upd_ne hflx]
      exact TT.flat
    · rw [upd_ne (hasx a (List.mem_of_getElem? hi))]
      exact TT.row i a hi
end
/-! ### the table, read -/
/-- where the table is read: followed[a][d % period] -/
theorem cell_read {C : Addr} {H : Hp} {x t : Addr} {p h a : Nat} {os : List Od} {F : List Addr} (N : NetAt C H x p h os t F) (ha : a < h) (hp : 0 < p) (d : Nat) : ∃ dx fl rows ro row, H x = some (.ins C dx (NetFs p h t fl)) ∧ H fl = some (.lst rows) ∧ rows[a]? = some (.ref ro) ∧ H ro = some (.lst row) ∧
    row[d % p]? = some (optV (idx p os a (d : Int))) := by
  obtain ⟨dx, fl, as, _, hx, _, hfl, hlen, hr⟩ := N
  have hal : a < as.length := by omega
  have e := List.getElem?_eq_getElem hal
  refine ⟨dx, fl, _, as[a], _, hx, hfl, by rw [List.getElem?_map, e]; rfl, hr a _ e, ?_⟩
  rw [List.getElem?_map, List.getElem?_range (Nat.mod_lt _ hp)]
  show some (optV (idx p os a ((d % p : Nat) : Int))) = _
  rw [idx_nat]
abbrev s_Net_stop_after : Stmt := inClass (top 31) 2
abbrev N_Net_stop_after : List Str := ["self", "house", "day", "index", "source", "target", "first", "days", "delay"]
abbrev P_Net_stop_after : List Str := ["self", "house", "day"]
theorem sc_Net_stop_after : FnScope N_Net_stop_after P_Net_stop_after (defScope s_Net_stop_after) := ⟨rfl, rfl, rfl, by decide +kernel, rfl, by decide +kernel, by decide +kernel⟩
section
variable {P : Program} {w : World} {K : PySem.W.Frag} {mg : Str → Option Value} {base : Heap}
/-- a stop, or None -/
def StopV (H H' : Hp) (v : V) : Option (Nat × Nat) → Prop
  | none => v = .non
  | some s => ∃ u, v = .ref u ∧ H u = none ∧ H' u = some (.tup [.int s.1, .int s.2])
def spStop (C : Addr) : Sp := fun vs H Q _ => ∃ (x t : Addr) (p h a d : Nat) (os : List Od) (F : List Addr), vs = [.ref x, .int a, .int d] ∧ NetAt C H x p h os t F ∧ 0 < p ∧ a < h ∧
  ∀ H' v, Same H H' → StopV H H' v (hop p os (a, d)) → Q v H'
theorem ok_stop_after {f C : Addr} {fd : FuncData} (F : Fun K "stop_after" "Net.stop_after" s_Net_stop_after f fd) (T : NetT K C) : FnOk P w K mg base CX0 2 f fd P_Net_stop_after (spStop C) := by
  refine F.ok sc_Net_stop_after (fun vs H Q E h => ?_) (fun cdv A outer s H vs Q E hr h => ?_)
  · obtain ⟨x, t, p, h, a, d, os, F, rfl, _⟩ := h
    rfl
  · obtain ⟨x, t, p, h, a, d, os, F, rfl, N, hp, ha, q⟩ := h
    refine ⟨_, pss_cons (ps_set (i := 3) sc_Net_stop_after.nd rfl (.inl rfl) (pe_ix ix_list (pe_ix ix_list (pe_fld (pv 0) rfl) (pv 1) (fun _ _ => rfl)) (pe_op op_modN (pv 2) (pe_fld (pv 0) rfl)) (fun _ _ => rfl)))
      (pss_cons (ps_if (pt_cmpR op_isN (pv 3) pe_non (nomark _)) (pss_one (ps_ret pe_non)) pss_nil)
      (pss_cons (ps_asg (pe_ix ix_tup (pe_fld (pv 0) rfl) (pv 3) (fun _ _ => rfl)) (pg_tup (by rfl) (pgs_cons (pg_name (i := 4) sc_Net_stop_after.nd rfl (.inl rfl)) (pgs_cons (pg_name (i := 5) sc_Net_stop_after.nd rfl (.inl rfl)) (pgs_cons (pg_name (i := 6) sc_Net_stop_after.nd rfl (.inl rfl))
        (pgs_cons (pg_name (i := 7) sc_Net_stop_after.nd rfl (.inl rfl)) (pgs_cons (pg_name (i := 8) sc_Net_stop_after.nd rfl (.inl rfl)) pgs_nil)))))))
      (pss_one (ps_ret (pe_tup (pa_cons (pv 5) (pa_cons (pe_op op_add (pv 2) (pv 8)) pa_nil))))))), ?_⟩
    obtain ⟨dx, fl, rows, ro, row, hx, hfl, hrows, hro, hrow⟩ := cell_read N ha hp d
    obtain ⟨_, _, _, _, hx', ⟨ts, ht, hP⟩, _⟩ := N
    refine ⟨_, rfl, x, C, dx, _, _, rfl, hx, T.cl, T.nF, nf_fl, _, rfl, fl, _, _, _, rfl, rfl, SqL.of hfl, atI_nat hrows, ?_⟩
    refine ⟨_, rfl, _, rfl, x, C, dx, _, _, rfl, hx, T.cl, T.nP, nf_pe, _, _, rfl, rfl, by omega, ?_⟩
    refine ⟨ro, _, ((d % p : Nat) : Int), _, rfl, ?_, SqL.of hro, atI_nat hrow, ?_⟩
    · show V.int ((d : Int).fmod (p : Int)) = _
      rw [fmod_nat]
    refine ⟨_, rfl, rfl, _, rfl, ?_⟩
    unfold hop at q
    cases e : idx p os a (d : Int) with
    | none =>
      simp only [e] at q
      exact iteT (q H .non (.refl H) rfl)
    | some k =>
      simp only [e] at q
      have hk := idx_lt e
      have hko := List.getElem?_eq_getElem hk
      obtain ⟨v, hv, u, rfl, hu⟩ := Paired.get? (i := k) hP hko
      rw [hko] at q
      generalize os[k] = o at q hu
      refine iteF ⟨_, rfl, x, C, dx, _, _, rfl, hx, T.cl, T.nO, nf_or, _, rfl, t, ts, _, _, rfl, rfl, SqT.of ht, atI_nat hv, ?_⟩
      refine ⟨u, _, rfl, SqT.of hu, rfl, _, _, rfl, _, _, rfl, _, _, rfl, _, _, rfl, _, _, rfl, rfl, ?_⟩
      refine ⟨_, rfl, _, rfl, _, rfl, _, _, rfl, rfl, (by show 2 ≤ sizeLine; decide), fun y ny => ?_⟩
      refine q _ _ (same_upd ny) ⟨y, rfl, ny, ?_⟩
      rw [upd_same]
      show some (HO.tup [V.int o.t, V.int ((d : Int) + (o.e : Int))]) = some (HO.tup [V.int o.t, V.int ((d + o.e : Nat) : Int)])
      rw [Int.natCast_add]
end
/-! ### stops and what is still to come: plain -/
def StopAt (H : Hp) (v : V) (s : Nat × Nat) : Prop := ∃ u, v = .ref u ∧ H u = some (.tup [.int s.1, .int s.2])
theorem StopAt.keep {H H' : Hp} {v : V} {s : Nat × Nat} (k : TupKeep H H') (h : StopAt H v s) : StopAt H' v s := by
  obtain ⟨u, e, hu⟩ := h
  exact ⟨u, e, k _ _ hu⟩
theorem StopsAt.keep {H H' : Hp} {vs : List V} {l : List (Nat × Nat)} (k : TupKeep H H') (h : Paired (StopAt H) vs l) : Paired (StopAt H') vs l := Paired.mapP h fun _ _ q => q.keep k
/-- what is still to come from a stop (or none) -/
def rest (p : Nat) (os : List Od) (n : Nat) : Option (Nat × Nat) → List (Nat × Nat)
  | none => []
  | some s => way p os n s
theorem rest_succ (p : Nat) (os : List Od) (n : Nat) (s : Nat × Nat) : rest p os (n + 1) (some s) = s :: rest p os n (hop p os s) := by
  show way p os (n + 1) s = _
  unfold way
  cases hop p os s <;> rfl
theorem rest_zero (p : Nat) (os : List Od) (o : Option (Nat × Nat)) : rest p os 0 o = [] := by cases o <;> rfl
theorem hop_house {p h : Nat} {os : List Od} {s s' : Nat × Nat} (k : NetOk p h os) (e : hop p os s = some s') : s'.1 < h := by
  unfold hop at e
  cases q : idx p os s.1 (s.2 : Int) with
  | none =>
    rw [q] at e
    cases e
  | some j =>
    simp only [q] at e
    have hj := idx_lt q
    rw [List.getElem?_eq_getElem hj] at e
    rw [← Option.some.inj e]
    exact (k.ok _ (List.getElem_mem hj)).t
/-! ### ways: plain -/
theorem way_len (p : Nat) (os : List Od) : ∀ (n : Nat) (st : Nat × Nat), (way p os n st).length ≤ n
  | 0, _ => Nat.le_refl _
  | n + 1, st => by
    show (way p os (n + 1) st).length ≤ n + 1
    rw [show way p os (n + 1) st = rest p os (n + 1) (some st) from rfl, rest_succ]
    cases h : hop p os st with
    | none => exact Nat.succ_le_succ (Nat.zero_le _)
    | some s' => exact Nat.succ_le_succ (way_len p os n s')
theorem way_house {p h : Nat} {os : List Od} (k : NetOk p h os) : ∀ {n : Nat} {st : Nat × Nat}, st.1 < h → ∀ s ∈ way p os n st, s.1 < h
  | 0, _, _, _, hm => by cases hm
  | n + 1, st, h0, s, hm => by
    rw [show way p os (n + 1) st = rest p os (n + 1) (some st) from rfl, rest_succ] at hm
    rcases List.mem_cons.mp hm with e | hm
    · rw [e]; exact h0
    · cases q : hop p os st with
      | none => rw [q] at hm; cases hm
      | some s' =>
        rw [q] at hm
        exact way_house k (hop_house k q) s hm
/-- the i-th stop, by going on from it -/
theorem way_drop {p : Nat} {os : List Od} : ∀ {n i : Nat} {st s : Nat × Nat}, (way p os n st)[i]? = some s → (way p os n st).drop i = way p os (n - i) s
  | 0, _, _, _, h => by cases h
  | n + 1, 0, st, s, h => by
    have e : st = s := Option.some.inj h
    subst e
    rfl
  | n + 1, i + 1, st, s, h => by
    have e : way p os (n + 1) st = st :: rest p os n (hop p os st) := rest_succ p os n st
    rw [e] at h ⊢
    rw [List.getElem?_cons_succ] at h
    rw [List.drop_succ_cons, Nat.succ_sub_succ]
    cases q : hop p os st with
    | none => rw [q] at h; cases h
    | some s' =>
      rw [q] at h
      exact way_drop h
/-! ### a letter followed to its end -/
def plc (p : Nat) (s : Nat × Nat) : Nat × Nat := (s.1, s.2 % p)
/-- the stops up to the first that comes back to an earlier one's place, and that one's index -/
def fol (p : Nat) : List (Nat × Nat) → List (Nat × Nat) → List (Nat × Nat) × Option Nat
  | done, [] => (done, none)
  | done, s :: r => match done.findIdx? (fun t => decide (plc p t = plc p s)) with
    | some b => (done ++ [s], some b)
    | none => fol p (done ++ [s]) r
def folR (p h : Nat) (os : List Od) (st : Nat × Nat) : List (Nat × Nat) × Option Nat := fol p [] (way p os (h * p + 1) st)
def keyOf (p : Nat) (s : Nat × Nat) : List Key := [Sum.inl (s.1 : Int), Sum.inl ((s.2 % p : Nat) : Int)]
def kvsFrom (p : Nat) : Nat → List (Nat × Nat) → List (List Key × V)
  | _, [] => []
  | k, s :: r => (keyOf p s, .int (k : Nat)) :: kvsFrom p (k + 1) r
theorem keyOf_eq {p : Nat} {s t : Nat × Nat} : keyOf p t = keyOf p s ↔ plc p t = plc p s := by
  unfold keyOf plc
  constructor
  · intro h
    have h1 : (t.1 : Int) = s.1 := Sum.inl.inj (List.cons.inj h).1
    have h2 : ((t.2 % p : Nat) : Int) = ((s.2 % p : Nat) : Int) := Sum.inl.inj (List.cons.inj (List.cons.inj h).2).1
    exact Prod.ext (by show t.1 = s.1; omega) (by show t.2 % p = s.2 % p; omega)
  · intro h
    have h1 : t.1 = s.1 := (Prod.mk.inj h).1
    have h2 : t.2 % p = s.2 % p := (Prod.mk.inj h).2
    rw [h1, h2]
theorem kvs_val {p : Nat} {s : Nat × Nat} : ∀ (l : List (Nat × Nat)) (k : Nat), valV (kvsFrom p k l) (keyOf p s) = (l.findIdx? fun t => decide (plc p t = plc p s)).map fun i => V.int ((k + i : Nat) : Int)
  | [], _ => rfl
  | t :: r, k => by
    rw [List.findIdx?_cons]
    unfold kvsFrom valV
    rw [List.find?_cons]
    by_cases c : plc p t = plc p s
    · have c2 : keyOf p t = keyOf p s := keyOf_eq.mpr c
      simp only [c, c2, decide_true, if_true, Option.map_some]
      rfl
    · have c2 : ¬ keyOf p t = keyOf p s := fun z => c (keyOf_eq.mp z)
      simp only [c, c2, decide_false, Bool.false_eq_true, if_false]
      have ih := kvs_val (p := p) (s := s) r (k + 1)
      unfold valV at ih
      rw [ih, Option.map_map]
      congr 1
      funext i
      show V.int ((k + 1 + i : Nat) : Int) = V.int ((k + (i + 1) : Nat) : Int)
      rw [show k + 1 + i = k + (i + 1) by omega]
theorem kvs_len {p : Nat} : ∀ (l : List (Nat × Nat)) (k : Nat), (kvsFrom p k l).length = l.length
  | [], _ => rfl
  | _ :: r, k => by
    show (kvsFrom p (k + 1) r).length + 1 = r.length + 1
    rw [kvs_len r (k + 1)]
theorem kvs_snoc {p : Nat} {s : Nat × Nat} : ∀ (l : List (Nat × Nat)) (k : Nat), kvsFrom p k (l ++ [s]) = kvsFrom p k l ++ [(keyOf p s, .int ((k + l.length : Nat) : Int))]
  | [], _ => rfl
  | t :: r, k => by
    show (keyOf p t, V.int (k : Nat)) :: kvsFrom p (k + 1) (r ++ [s]) = _
    rw [kvs_snoc r (k + 1)]
    show _ = (keyOf p t, V.int (k : Nat)) :: (kvsFrom p (k + 1) r ++ [(keyOf p s, V.int ((k + (r.length + 1) : Nat) : Int))])
    rw [show k + 1 + r.length = k + (r.length + 1) by omega]
theorem putK_new {κ : Type} [DecidableEq κ] {kvs : List (κ × V)} {k : κ} {v : V} (h : valV kvs k = none) : putK kvs k v = kvs ++ [(k, v)] := by
  unfold putK
  have e : (kvs.any fun kv => decide (kv.1 = k)) = false := by
    unfold valV at h
    rw [Option.map_eq_none_iff, List.find?_eq_none] at h
    rw [List.any_eq_false]
    exact h
  rw [e, if_neg Bool.false_ne_true]
theorem pair_last {α β : Type} {F : α → β → Prop} {y : α} {s : β} : ∀ {xs : List α} {l : List β}, Paired F (xs ++ [y]) (l ++ [s]) → F y s
  | [], [], h => by cases h with | cons r _ => exact r
  | [], b :: l, h => by
    cases h with
    | cons _ t =>
      have := t.length
      simp at this
  | a :: xs, [], h => by
    cases h with
    | cons _ t =>
      have := t.length
      simp at this
  | a :: xs, b :: l, h => by
    cases h with
    | cons _ t => exact pair_last t
theorem pair_split {α β : Type} {F : α → β → Prop} {s : β} : ∀ {l : List β} {xs : List α}, Paired F xs (l ++ [s]) → ∃ ys v, xs = ys ++ [v] ∧ Paired F ys l ∧ F v s
  | [], _, h => by
    cases h with
    | cons r t =>
      cases t
      exact ⟨[], _, rfl, .nil, r⟩
  | b :: l, _, h => by
    cases h with
    | cons r t =>
      obtain ⟨ys, v, rfl, h1, h2⟩ := pair_split t
      exact ⟨_ :: ys, v, rfl, .cons r h1, h2⟩
/-- what follow gives: the stops' list, the index -/
def FolAt (H H' : Hp) (r : Addr) (res : List (Nat × Nat) × Option Nat) : Prop := ∃ sl vs, H r = none ∧ H' r = some (.tup [.ref sl, optV res.2]) ∧ H sl = none ∧ H' sl = some (.lst vs) ∧ Paired (StopAt H') vs res.1
/-! ### cuts -/
theorem cut_from {xs : List V} {n : Nat} : cutV xs (some (n : Int)) none = xs.drop n := by
  unfold cutV
  rw [HT.sIx_nat, HT.sIx_none]
  by_cases c : n ≤ xs.length
  · rw [Nat.min_eq_left c, List.take_of_length_le (by rw [List.length_drop]; exact Nat.le_refl _)]
  · rw [Nat.min_eq_right (by omega), Nat.sub_self, List.take_zero, List.drop_eq_nil_iff.mpr (by omega)]
theorem cut_to {xs : List V} {n : Nat} : cutV xs none (some (n : Int)) = xs.take n := by
  unfold cutV
  rw [HT.sIx_none, HT.sIx_nat, List.drop_zero, Nat.sub_zero]
  by_cases c : n ≤ xs.length
  · rw [Nat.min_eq_left c]
  · rw [Nat.min_eq_right (by omega), List.take_of_length_le (Nat.le_refl _), List.take_of_length_le (by omega)]
/-! ### stops followed: plain mathematics -/
theorem fol_ne {p : Nat} : ∀ (l d : List (Nat × Nat)), (d ≠ [] ∨ l ≠ []) → (fol p d l).1 ≠ []
  | [], d, h => by
    rcases h with h | h
    · exact h
    · exact absurd rfl h
  | s :: r, d, _ => by
    unfold fol
    cases (d.findIdx? fun t => decide (plc p t = plc p s)) with
    | some b => simp
    | none => exact fol_ne r (d ++ [s]) (.inl (by simp))
theorem fol_len {p : Nat} : ∀ (l d : List (Nat × Nat)), (fol p d l).1.length ≤ d.length + l.length
  | [], d => by
    show d.length ≤ _
    omega
  | s :: r, d => by
    unfold fol
    cases (d.findIdx? fun t => decide (plc p t = plc p s)) with
    | some b =>
      show (d ++ [s]).length ≤ _
      rw [List.length_append, List.length_singleton, List.length_cons]
      omega
    | none =>
      have := fol_len (p := p) r (d ++ [s])
      rw [List.length_append, List.length_singleton] at this
      rw [List.length_cons]
      show (fol p (d ++ [s]) r).1.length ≤ _
      omega
theorem folR_ne {p h : Nat} {os : List Od} {st : Nat × Nat} : (folR p h os st).1 ≠ [] := by
  unfold folR
  refine fol_ne _ _ (.inr ?_)
  show way p os (h * p + 1) st ≠ []
  rw [show way p os (h * p + 1) st = rest p os (h * p + 1) (some st) from rfl, rest_succ]
  exact List.cons_ne_nil _ _
theorem folR_len {p h : Nat} {os : List Od} {st : Nat × Nat} : (folR p h os st).1.length ≤ h * p + 1 := by
  have h1 := fol_len (p := p) (way p os (h * p + 1) st) []
  have h2 := way_len p os (h * p + 1) st
  unfold folR
  simp only [List.length_nil, Nat.zero_add] at h1
  exact Nat.le_trans h1 h2
theorem small301 {p h : Nat} {os : List Od} (k : NetOk p h os) : h * p + 1 ≤ 301 := by
  have : h * p ≤ 10 * 30 := Nat.mul_le_mul k.h10 k.p30
  omega
theorem optV_isN {o : Option Nat} : decide (optV o = .non) = o.isNone := by cases o <;> rfl
theorem pair_drop {α β : Type} {F : α → β → Prop} {xs : List α} {l : List β} (h : Paired F xs l) : ∀ n, Paired F (xs.drop n) (l.drop n) := by
  induction h with
  | nil =>
    intro n
    rw [List.drop_nil, List.drop_nil]
    exact .nil
  | cons r t ih =>
    intro n
    cases n with
    | zero => exact .cons r t
    | succ n => exact ih n
theorem nodup_bound : ∀ (n : Nat) (l : List Nat), l.Nodup → (∀ x ∈ l, x < n) → l.length ≤ n
  | 0, [], _, _ => Nat.le_refl _
  | 0, x :: l, _, h => absurd (h x List.mem_cons_self) (Nat.not_lt_zero _)
  | n + 1, l, nd, h => by
    by_cases c : n ∈ l
    · have h1 : (l.erase n).length ≤ n := nodup_bound n (l.erase n) (nd.erase n) fun x hx => by
        have h2 := (List.Nodup.mem_erase_iff nd).mp hx
        have h3 := h x h2.2
        have h4 : x ≠ n := h2.1
        omega
      have h2 := List.length_erase_of_mem c
      omega
    · have h1 : l.length ≤ n := nodup_bound n l nd fun x hx => by
        have h3 := h x hx
        have h4 : x ≠ n := fun e => c (e ▸ hx)
        omega
      omega
/-- stops at different places are few -/
theorem places_bound {p h : Nat} {l : List (Nat × Nat)} (hp : 0 < p) (hh : ∀ s ∈ l, s.1 < h) (nd : (l.map (plc p)).Nodup) : l.length ≤ h * p := by
  have e : (l.map fun s => s.1 * p + s.2 % p).length = l.length := List.length_map _
  rw [← e]
  refine nodup_bound (h * p) _ ?_ ?_
  · have e2 : (l.map fun s => s.1 * p + s.2 % p) = (l.map (plc p)).map fun s => s.1 * p + s.2 := by
      rw [List.map_map]
      rfl
    rw [e2]
    have lt : ∀ s ∈ l.map (plc p), s.2 < p := fun s hs => by
      obtain ⟨t, _, rfl⟩ := List.mem_map.mp hs
      exact Nat.mod_lt _ hp
    generalize l.map (plc p) = ps at nd lt
    clear e e2 hh
    induction ps with
    | nil => exact List.nodup_nil
    | cons s r ih =>
      rw [List.nodup_cons] at nd
      rw [List.map_cons, List.nodup_cons]
      refine ⟨fun hm => ?_, ih nd.2 fun t ht => lt t (List.mem_cons_of_mem _ ht)⟩
      obtain ⟨t, ht, et⟩ := List.mem_map.mp hm
      have l1 := lt s List.mem_cons_self
      have l2 := lt t (List.mem_cons_of_mem _ ht)
      have q1 : t.1 = s.1 := by
        have a1 : (t.1 * p + t.2) / p = (s.1 * p + s.2) / p := by rw [et]
        rw [Nat.mul_comm t.1, Nat.mul_comm s.1, Nat.mul_add_div hp, Nat.mul_add_div hp, Nat.div_eq_of_lt l1, Nat.div_eq_of_lt l2] at a1
        omega
      have q2 : t.2 = s.2 := by
        rw [q1] at et
        omega
      exact nd.1 (by rw [show s = t from Prod.ext q1.symm q2.symm]; exact ht)
  · intro x hx
    obtain ⟨s, hs, rfl⟩ := List.mem_map.mp hx
    have h1 := hh s hs
    have h2 : s.2 % p < p := Nat.mod_lt _ hp
    calc s.1 * p + s.2 % p < s.1 * p + p := by omega
      _ = (s.1 + 1) * p := by rw [Nat.add_mul, Nat.one_mul]
      _ ≤ h * p := Nat.mul_le_mul_right _ h1
/-- how a way goes on behind its i-th stop -/
theorem way_next {p : Nat} {os : List Od} {n i : Nat} {st c : Nat × Nat} (hc : (way p os n st)[i]? = some c) (hi : i + 1 < n) : (way p os n st).drop (i + 1) = rest p os (n - (i + 1)) (hop p os c) := by
  have h := way_drop hc
  have e : n - i = (n - (i + 1)) + 1 := by omega
  rw [e, show way p os (n - (i + 1) + 1) c = rest p os (n - (i + 1) + 1) (some c) from rfl, rest_succ] at h
  have := congrArg (List.drop 1) h
  rw [List.drop_drop] at this
  exact this
/-- destination's answer -/
def destOf (res : List (Nat × Nat) × Option Nat) : Option (Nat × Nat) := match res.2 with
  | some _ => none
  | none => res.1.getLast?
def OptStop (H' : Hp) (v : V) : Option (Nat × Nat) → Prop
  | none => v = .non
  | some s => StopAt H' v s
/-! ### where a letter is: plain mathematics -/
/-- the i-th stop of a letter's way -/
def stp (p : Nat) (os : List Od) : Nat → Nat × Nat → Option (Nat × Nat)
  | 0, st => some st
  | n + 1, st => (stp p os n st).bind (hop p os)
theorem way_get {p : Nat} {os : List Od} {n : Nat} {st : Nat × Nat} : ∀ {i : Nat}, i < n → (way p os n st)[i]? = stp p os i st
  | 0, h => by
    obtain ⟨n, rfl⟩ : ∃ m, n = m + 1 := ⟨n - 1, by omega⟩
    rw [show way p os (n + 1) st = rest p os (n + 1) (some st) from rfl, rest_succ]
    rfl
  | i + 1, h => by
    have ih := way_get (p := p) (os := os) (n := n) (st := st) (i := i) (by omega)
    show _ = (stp p os i st).bind (hop p os)
    cases q : (way p os n st)[i]? with
    | none =>
      rw [← ih, q]
      rw [List.getElem?_eq_none_iff] at q
      exact List.getElem?_eq_none_iff.mpr (by omega)
    | some c =>
      rw [← ih, q]
      have e := way_next q h
      have e2 := congrArg (fun l => l[0]?) e
      simp only [List.getElem?_drop, Nat.add_zero] at e2
      rw [e2]
      obtain ⟨k, hk⟩ : ∃ k, n - (i + 1) = k + 1 := ⟨n - (i + 1) - 1, by omega⟩
      rw [hk]
      show (rest p os (k + 1) (hop p os c))[0]? = hop p os c
      cases hop p os c with
      | none => rfl
      | some s =>
        rw [rest_succ]
        rfl
theorem stp_add {p : Nat} {os : List Od} {i : Nat} {st : Nat × Nat} : ∀ {j : Nat}, stp p os (i + j) st = (stp p os i st).bind (stp p os j)
  | 0 => by
    show stp p os i st = _
    cases stp p os i st <;> rfl
  | j + 1 => by
    show (stp p os (i + j) st).bind (hop p os) = _
    rw [stp_add]
    cases stp p os i st <;> rfl
theorem hop_more {p h : Nat} {os : List Od} {c s : Nat × Nat} (k : NetOk p h os) (e : hop p os c = some s) : c.2 < s.2 := by
  unfold hop at e
  cases q : idx p os c.1 (c.2 : Int) with
  | none =>
    rw [q] at e
    cases e
  | some j =>
    simp only [q] at e
    have hj := idx_lt q
    rw [List.getElem?_eq_getElem hj] at e
    rw [← Option.some.inj e]
    have := (k.ok _ (List.getElem_mem hj)).e1
    show c.2 < c.2 + _
    omega
theorem stp_more {p h : Nat} {os : List Od} {i : Nat} {st a : Nat × Nat} (ok : NetOk p h os) (ha : stp p os i st = some a) : ∀ {k : Nat}, ∀ {b}, stp p os (i + (k + 1)) st = some b → a.2 < b.2
  | 0, b, hb => by
    have e : (stp p os i st).bind (hop p os) = some b := hb
    rw [ha] at e
    exact hop_more ok e
  | k + 1, b, hb => by
    have e : (stp p os (i + (k + 1)) st).bind (hop p os) = some b := hb
    cases q : stp p os (i + (k + 1)) st with
    | none =>
      rw [q] at e
      cases e
    | some c =>
      rw [q] at e
      have h1 := stp_more ok ha (k := k) q
      have h2 := hop_more ok e
      omega
/-- the letter's last stop up to the day x: it is c, the j-th -/
def LastAt (p : Nat) (os : List Od) (st : Nat × Nat) (x : Nat) (c : Nat × Nat) (j : Nat) : Prop :=
  stp p os j st = some c ∧ c.2 ≤ x ∧ ∀ s, hop p os c = some s → x < s.2
theorem LastAt.uniq {p h : Nat} {os : List Od} {st c c' : Nat × Nat} {x j j' : Nat} (ok : NetOk p h os) (a : LastAt p os st x c j) (b : LastAt p os st x c' j') : c = c' ∧ j = j' := by
  obtain ⟨a1, a2, a3⟩ := a
  obtain ⟨b1, b2, b3⟩ := b
  have key : ∀ {c c' : Nat × Nat} {j j' : Nat}, stp p os j st = some c → (∀ s, hop p os c = some s → x < s.2) → stp p os j' st = some c' → c'.2 ≤ x → j < j' → False := by
    intro c c' j j' h1 h2 h3 h4 lt
    obtain ⟨k, rfl⟩ : ∃ k, j' = (j + 1) + k := ⟨j' - (j + 1), by omega⟩
    have e0 : stp p os (j + 1) st = hop p os c := by
      show (stp p os j st).bind (hop p os) = _
      rw [h1]
      rfl
    cases q : hop p os c with
    | none =>
      rw [stp_add, e0, q] at h3
      cases h3
    | some s =>
      have h5 := h2 s q
      cases k with
      | zero =>
        rw [Nat.add_zero, e0, q] at h3
        rw [← Option.some.inj h3] at h4
        omega
      | succ k =>
        have h6 := stp_more ok (e0.trans q) h3
        omega
  by_cases e : j = j'
  · subst e
    exact ⟨Option.some.inj (a1.symm.trans b1), rfl⟩
  · rcases Nat.lt_or_gt_of_ne e with lt | lt
    · exact (key a1 a3 b1 b2 lt).elim
    · exact (key b1 b3 a1 a2 lt).elim
/-- later by D days, a multiple of the period -/
def shf (D : Nat) (s : Nat × Nat) : Nat × Nat := (s.1, s.2 + D)
theorem hop_shf {p : Nat} {os : List Od} {k : Nat} (s : Nat × Nat) : hop p os (shf (p * k) s) = (hop p os s).map (shf (p * k)) := by
  unfold hop shf
  show (match idx p os s.1 ((s.2 + p * k : Nat) : Int) with | none => none | some j => (os[j]?).map fun o : Od => (o.t, s.2 + p * k + o.e)) = _
  rw [idx_later]
  cases idx p os s.1 (s.2 : Int) with
  | none => rfl
  | some j =>
    show (os[j]?).map _ = ((os[j]?).map _).map _
    rw [Option.map_map]
    congr 1
    funext o
    show (o.t, s.2 + p * k + o.e) = (o.t, s.2 + o.e + p * k)
    rw [show s.2 + p * k + o.e = s.2 + o.e + p * k by omega]
theorem stp_shf {p : Nat} {os : List Od} {k : Nat} (s : Nat × Nat) : ∀ j, stp p os j (shf (p * k) s) = (stp p os j s).map (shf (p * k))
  | 0 => rfl
  | j + 1 => by
    show (stp p os j (shf (p * k) s)).bind (hop p os) = ((stp p os j s).bind (hop p os)).map _
    rw [stp_shf s j]
    cases stp p os j s with
    | none => rfl
    | some c => exact hop_shf c
/-- round after round -/
theorem stp_round {p : Nat} {os : List Od} {b N D k0 : Nat} {st t : Nat × Nat} (hD : D = p * k0) (h1 : stp p os b st = some t) (h2 : stp p os (b + N) st = some (shf D t)) : ∀ (r i : Nat), stp p os (b + i + N * r) st = (stp p os (b + i) st).map (shf (D * r))
  | 0, i => by
    rw [Nat.mul_zero, Nat.mul_zero, Nat.add_zero]
    cases stp p os (b + i) st <;> rfl
  | r + 1, i => by
    have one : ∀ j, stp p os (b + N + j) st = (stp p os (b + j) st).map (shf D) := by
      intro j
      rw [stp_add, h2]
      show stp p os j (shf D t) = _
      rw [stp_add (i := b), h1, hD, stp_shf]
      rfl
    have e : b + i + N * (r + 1) = b + N + (i + N * r) := by
      rw [Nat.mul_add, Nat.mul_one]
      omega
    rw [e, one, show b + (i + N * r) = b + i + N * r by omega, stp_round hD h1 h2 r i, Option.map_map]
    congr 1
    funext s
    show (s.1, s.2 + D * r + D) = (s.1, s.2 + D * (r + 1))
    rw [Nat.mul_add, Nat.mul_one, Nat.add_assoc]
/-- what fol says -/
theorem fol_spec {p : Nat} : ∀ (r d : List (Nat × Nat)), (d.map (plc p)).Nodup →
    (fol p d r = (d ++ r, none) ∧ ((d ++ r).map (plc p)).Nodup) ∨ ∃ m s b t r', d ++ r = m ++ s :: r' ∧ fol p d r = (m ++ [s], some b) ∧ m[b]? = some t ∧ plc p t = plc p s ∧ (m.map (plc p)).Nodup
  | [], d, nd => .inl ⟨by rw [List.append_nil]; rfl, by rw [List.append_nil]; exact nd⟩
  | s :: r, d, nd => by
    unfold fol
    cases q : d.findIdx? (fun t => decide (plc p t = plc p s)) with
    | some b =>
      obtain ⟨hb, hb2, _⟩ := List.findIdx?_eq_some_iff_getElem.mp q
      exact .inr ⟨d, s, b, d[b], r, rfl, rfl, List.getElem?_eq_getElem hb, of_decide_eq_true hb2, nd⟩
    | none =>
      have nd2 : ((d ++ [s]).map (plc p)).Nodup := by
        rw [List.map_append, List.nodup_append]
        refine ⟨nd, by simp, fun x hx y hy => ?_⟩
        rw [List.map_cons, List.map_nil, List.mem_singleton] at hy
        rw [hy]
        intro e
        obtain ⟨t, ht, et⟩ := List.mem_map.mp hx
        have := List.findIdx?_eq_none_iff.mp q t ht
        exact Bool.false_ne_true (this.symm.trans (decide_eq_true (et.trans e)))
      have ih := fol_spec r (d ++ [s]) nd2
      rw [List.append_assoc] at ih
      exact ih
/-- a letter that is delivered, or chases: by its stops -/
theorem folR_cases {p h : Nat} {os : List Od} {st : Nat × Nat} (ok : NetOk p h os) (hh : st.1 < h) :
    (∃ l, folR p h os st = (l, none) ∧ l ≠ [] ∧ (∀ i, l[i]? = stp p os i st) ∧ (l.map (plc p)).Nodup) ∨
    (∃ m s b t k, folR p h os st = (m ++ [s], some b) ∧ (∀ i, i ≤ m.length → (m ++ [s])[i]? = stp p os i st) ∧ m[b]? = some t ∧ s = shf (p * k) t ∧ 0 < p * k ∧ (m.map (plc p)).Nodup) := by
  have hp : 0 < p := ok.p1
  have hlen := way_len p os (h * p + 1) st
  have hget : ∀ {i}, i < h * p + 1 → (way p os (h * p + 1) st)[i]? = stp p os i st := fun hi => way_get hi
  have hho := way_house (n := h * p + 1) ok hh
  have hne : way p os (h * p + 1) st ≠ [] := by
    rw [show way p os (h * p + 1) st = rest p os (h * p + 1) (some st) from rfl, rest_succ]
    exact List.cons_ne_nil _ _
  unfold folR
  generalize way p os (h * p + 1) st = L at hlen hget hho hne
  rcases fol_spec (p := p) L [] List.nodup_nil with ⟨e, nd⟩ | ⟨m, s, b, t, r', e1, e2, e3, e4, nd⟩
  · rw [List.nil_append] at e nd
    refine .inl ⟨L, e, hne, fun i => ?_, nd⟩
    have hb := places_bound hp hho nd
    by_cases c : i < h * p + 1
    · exact hget c
    · have e1 : stp p os L.length st = none := by
        rw [← hget (by omega)]
        exact List.getElem?_eq_none_iff.mpr (Nat.le_refl _)
      have e2 : i = L.length + (i - L.length) := by omega
      rw [e2, stp_add, e1]
      exact List.getElem?_eq_none_iff.mpr (by omega)
  · rw [List.nil_append] at e1
    have hml : m.length < L.length := by
      rw [e1, List.length_append, List.length_cons]
      omega
    have hg : ∀ i, i ≤ m.length → (m ++ [s])[i]? = stp p os i st := fun i hi => by
      rw [← hget (by omega), e1]
      by_cases c : i < m.length
      · rw [List.getElem?_append_left c, List.getElem?_append_left c]
      · obtain rfl : i = m.length := by omega
        rw [List.getElem?_append_right (Nat.le_refl _), List.getElem?_append_right (Nat.le_refl _), Nat.sub_self]
        rfl
    have hbl : b < m.length := (List.getElem?_eq_some_iff.mp e3).1
    have g1 : stp p os b st = some t := by
      rw [← hg b (by omega), List.getElem?_append_left hbl]
      exact e3
    have g2 : stp p os (b + (m.length - b - 1 + 1)) st = some s := by
      rw [show b + (m.length - b - 1 + 1) = m.length by omega, ← hg _ (Nat.le_refl _), List.getElem?_append_right (Nat.le_refl _), Nat.sub_self]
      rfl
    have lt := stp_more (b := s) ok g1 g2
    have h1 : t.1 = s.1 := (Prod.mk.inj e4).1
    have h2 : t.2 % p = s.2 % p := (Prod.mk.inj e4).2
    have hk : s.2 = t.2 + p * (s.2 / p - t.2 / p) := by
      have a1 := Nat.div_add_mod s.2 p
      have a2 := Nat.div_add_mod t.2 p
      have a3 : t.2 / p ≤ s.2 / p := Nat.div_le_div_right (Nat.le_of_lt lt)
      rw [Nat.mul_sub]
      have a4 : p * (t.2 / p) ≤ p * (s.2 / p) := Nat.mul_le_mul_left _ a3
      omega
    refine .inr ⟨m, s, b, t, s.2 / p - t.2 / p, e2, hg, e3, ?_, by omega, nd⟩
    exact Prod.ext h1.symm hk
/-- of an increasing list, those up to a day are its beginning -/
theorem upto {sk x : Nat} : ∀ {l : List (Nat × Nat)}, l.Pairwise (fun a b => a.2 < b.2) → l.filter (fun s => decide (s.2 + sk ≤ x)) = l.take (l.filter fun s => decide (s.2 + sk ≤ x)).length ∧ ∀ s ∈ l.drop (l.filter fun s => decide (s.2 + sk ≤ x)).length, x < s.2 + sk
  | [], _ => ⟨rfl, fun s h => by cases h⟩
  | s :: r, hp => by
    rw [List.pairwise_cons] at hp
    obtain ⟨h1, h2⟩ := upto (sk := sk) (x := x) hp.2
    by_cases c : s.2 + sk ≤ x
    · have e : (s :: r).filter (fun s => decide (s.2 + sk ≤ x)) = s :: r.filter (fun s => decide (s.2 + sk ≤ x)) := List.filter_cons_of_pos (p := fun s : Nat × Nat => decide (s.2 + sk ≤ x)) (decide_eq_true c)
      rw [e, List.length_cons, List.take_succ_cons, List.drop_succ_cons]
      refine ⟨?_, h2⟩
      rw [← h1]
    · have hn : ∀ t ∈ s :: r, x < t.2 + sk := fun t ht => by
        rcases List.mem_cons.mp ht with e | e
        · rw [e]; omega
        · have := hp.1 t e
          omega
      have e0 : (s :: r).filter (fun s => decide (s.2 + sk ≤ x)) = [] := List.filter_eq_nil_iff.mpr fun t ht z => by
        have := hn t ht
        have := of_decide_eq_true z
        omega
      rw [e0]
      exact ⟨rfl, fun t ht => hn t ht⟩
theorem stp_pair {p h : Nat} {os : List Od} {st : Nat × Nat} {l : List (Nat × Nat)} (ok : NetOk p h os) (hl : ∀ i, i < l.length → l[i]? = stp p os i st) : l.Pairwise fun a b => a.2 < b.2 := by
  rw [List.pairwise_iff_getElem]
  intro i j hi hj lt
  have e1 := hl i hi
  have e2 := hl j hj
  rw [List.getElem?_eq_getElem hi] at e1
  rw [List.getElem?_eq_getElem hj] at e2
  obtain ⟨k, rfl⟩ : ∃ k, j = i + (k + 1) := ⟨j - i - 1, by omega⟩
  exact stp_more (b := l[i + (k + 1)]) ok e1.symm e2.symm
def cnt (l : List (Nat × Nat)) (x : Nat) : Nat := (l.filter fun s => decide (s.2 ≤ x)).length
/-- days and hops that a chasing letter has behind it in whole rounds, up to the day x -/
def skips (res : List (Nat × Nat) × Option Nat) (x : Nat) : Nat × Nat := match res.2 with
  | none => (0, 0)
  | some b => match res.1[b]?, res.1.getLast? with
    | some t, some s => if t.2 ≤ x then ((x - t.2) / (s.2 - t.2) * (s.2 - t.2), (x - t.2) / (s.2 - t.2) * (res.1.length - 1 - b)) else (0, 0)
    | _, _ => (0, 0)
def cntS (l : List (Nat × Nat)) (sk x : Nat) : Nat := (l.filter fun s => decide (s.2 + sk ≤ x)).length
theorem cntS_spec {p h : Nat} {os : List Od} {st : Nat × Nat} {l : List (Nat × Nat)} {sk x : Nat} (ok : NetOk p h os) (hl : ∀ i, i < l.length → l[i]? = stp p os i st) :
    cntS l sk x ≤ l.length ∧ (∀ i s, i < cntS l sk x → l[i]? = some s → s.2 + sk ≤ x) ∧ ∀ i s, cntS l sk x ≤ i → l[i]? = some s → x < s.2 + sk := by
  obtain ⟨h1, h2⟩ := upto (sk := sk) (x := x) (stp_pair ok hl)
  have hc : cntS l sk x ≤ l.length := List.length_filter_le _ _
  refine ⟨hc, fun i s hi e => ?_, fun i s hi e => ?_⟩
  · have m : s ∈ l.filter fun s => decide (s.2 + sk ≤ x) := by
      rw [h1]
      refine List.mem_of_getElem? (i := i) ?_
      show (l.take (cntS l sk x))[i]? = some s
      rw [List.getElem?_take_of_lt hi]
      exact e
    exact of_decide_eq_true (List.mem_filter.mp m).2
  · refine h2 s (List.mem_of_getElem? (i := i - cntS l sk x) ?_)
    show (l.drop (cntS l sk x))[i - cntS l sk x]? = some s
    rw [List.getElem?_drop, show cntS l sk x + (i - cntS l sk x) = i by omega]
    exact e
/-- the last stop, as it is computed from what follow says -/
theorem last_of {p h : Nat} {os : List Od} {st : Nat × Nat} {x : Nat} (ok : NetOk p h os) (hh : st.1 < h) (hx : st.2 ≤ x) :
    ∃ c s, cntS (folR p h os st).1 (skips (folR p h os st) x).1 x = c + 1 ∧ (folR p h os st).1[c]? = some s ∧ LastAt p os st x (shf (skips (folR p h os st) x).1 s) (c + (skips (folR p h os st) x).2) ∧
      ((folR p h os st).2.isSome = true → c + 1 < (folR p h os st).1.length) := by
  rcases folR_cases ok hh with ⟨l, e, hne, hl, _⟩ | ⟨m, s, b, t, k, e, hl, hb, hs, hk, _⟩
  · rw [e]
    show ∃ c s, cntS l 0 x = c + 1 ∧ l[c]? = some s ∧ LastAt p os st x (shf 0 s) (c + 0) ∧ (Option.isSome (none : Option Nat) = true → c + 1 < l.length)
    obtain ⟨c1, c2, c3⟩ := cntS_spec (sk := 0) (x := x) ok fun i _ => hl i
    have h0 : l[0]? = some st := hl 0
    have pos : 0 < cntS l 0 x := by
      refine Nat.pos_of_ne_zero fun z => ?_
      have := c3 0 st (by omega) h0
      omega
    obtain ⟨c, hc⟩ : ∃ c, cntS l 0 x = c + 1 := ⟨cntS l 0 x - 1, by omega⟩
    have hcl : c < l.length := by omega
    have hc' := List.getElem?_eq_getElem hcl
    refine ⟨c, l[c], hc, hc', ⟨?_, c2 c _ (by omega) hc', fun s hs => ?_⟩, fun z => by cases z⟩
    · rw [Nat.add_zero, ← hl c]
      exact hc'
    · have e1 : l[c + 1]? = some s := by
        rw [hl (c + 1)]
        show (stp p os c st).bind (hop p os) = _
        rw [← hl c, hc']
        exact hs
      have := c3 (c + 1) s (by omega) e1
      omega
  · rw [e]
    have hbl : b < m.length := (List.getElem?_eq_some_iff.mp hb).1
    have hl' : ∀ i, i < (m ++ [s]).length → (m ++ [s])[i]? = stp p os i st := fun i hi => hl i (by rw [List.length_append, List.length_singleton] at hi; omega)
    have g1 : (m ++ [s])[b]? = some t := by rw [List.getElem?_append_left hbl]; exact hb
    have g2 : (m ++ [s])[m.length]? = some s := by
      rw [List.getElem?_append_right (Nat.le_refl _), Nat.sub_self]
      rfl
    have w1 : stp p os b st = some t := by rw [← hl b (by omega)]; exact g1
    have w2 : stp p os (b + (m.length - b)) st = some (shf (p * k) t) := by
      rw [show b + (m.length - b) = m.length by omega, ← hl _ (Nat.le_refl _), ← hs]
      exact g2
    have hD : s.2 - t.2 = p * k := by
      rw [hs]
      show t.2 + p * k - t.2 = _
      omega
    have esk : skips (m ++ [s], some b) x = if t.2 ≤ x then ((x - t.2) / (p * k) * (p * k), (x - t.2) / (p * k) * (m.length - b)) else (0, 0) := by
      unfold skips
      simp only [g1, List.getLast?_concat, hD]
      rw [List.length_append, List.length_singleton, Nat.add_sub_cancel]
    rw [esk]
    by_cases c : t.2 ≤ x
    · rw [if_pos c]
      generalize hr : (x - t.2) / (p * k) = r
      have q1 := Nat.div_add_mod (x - t.2) (p * k)
      have q2 := Nat.mod_lt (x - t.2) hk
      rw [hr] at q1
      have q3 : p * k * r = r * (p * k) := Nat.mul_comm _ _
      show ∃ c z, cntS (m ++ [s]) (r * (p * k)) x = c + 1 ∧ (m ++ [s])[c]? = some z ∧ LastAt p os st x (shf (r * (p * k)) z) (c + r * (m.length - b)) ∧ (Option.isSome (some b) = true → c + 1 < (m ++ [s]).length)
      obtain ⟨c1, c2, c3⟩ := cntS_spec (sk := r * (p * k)) (x := x) ok hl'
      have lo : b < cntS (m ++ [s]) (r * (p * k)) x := by
        refine Nat.lt_of_not_le fun z => ?_
        have := c3 b t z g1
        omega
      have hi : cntS (m ++ [s]) (r * (p * k)) x ≤ m.length := by
        refine Nat.le_of_not_lt fun z => ?_
        have := c2 m.length s z g2
        have e0 : s.2 = t.2 + p * k := by rw [hs]; rfl
        omega
      obtain ⟨c, hc⟩ : ∃ c, cntS (m ++ [s]) (r * (p * k)) x = c + 1 := ⟨cntS (m ++ [s]) (r * (p * k)) x - 1, by omega⟩
      have hcl : c < (m ++ [s]).length := by rw [List.length_append, List.length_singleton]; omega
      have hc' := List.getElem?_eq_getElem hcl
      have round := stp_round (D := p * k) (k0 := k) rfl w1 w2 r
      have sc : stp p os (c + r * (m.length - b)) st = some (shf (r * (p * k)) ((m ++ [s])[c])) := by
        have e1 := round (c - b)
        rw [show b + (c - b) = c by omega, Nat.mul_comm (m.length - b) r, ← hl c (by omega), hc', Nat.mul_comm (p * k) r] at e1
        exact e1
      refine ⟨c, (m ++ [s])[c], hc, hc', ⟨sc, c2 c _ (by omega) hc', fun z hz => ?_⟩, fun _ => by rw [List.length_append, List.length_singleton]; omega⟩
      have hcl2 : c + 1 < (m ++ [s]).length := by rw [List.length_append, List.length_singleton]; omega
      have hc2' := List.getElem?_eq_getElem hcl2
      have e2 := round (c + 1 - b)
      rw [show b + (c + 1 - b) = c + 1 by omega, Nat.mul_comm (m.length - b) r, ← hl (c + 1) (by omega), hc2', Nat.mul_comm (p * k) r] at e2
      have e3 : stp p os (c + 1 + r * (m.length - b)) st = some z := by
        rw [show c + 1 + r * (m.length - b) = (c + r * (m.length - b)) + 1 by omega]
        show (stp p os (c + r * (m.length - b)) st).bind (hop p os) = _
        rw [sc]
        exact hz
      rw [e3] at e2
      rw [Option.some.inj e2]
      exact c3 (c + 1) _ (by omega) hc2'
    · rw [if_neg c]
      show ∃ c z, cntS (m ++ [s]) 0 x = c + 1 ∧ (m ++ [s])[c]? = some z ∧ LastAt p os st x (shf 0 z) (c + 0) ∧ (Option.isSome (some b) = true → c + 1 < (m ++ [s]).length)
      obtain ⟨c1, c2, c3⟩ := cntS_spec (sk := 0) (x := x) ok hl'
      have h0 : (m ++ [s])[0]? = some st := hl 0 (Nat.zero_le _)
      have pos : 0 < cntS (m ++ [s]) 0 x := by
        refine Nat.pos_of_ne_zero fun z => ?_
        have := c3 0 st (by omega) h0
        omega
      have hi : cntS (m ++ [s]) 0 x ≤ b := by
        refine Nat.le_of_not_lt fun z => ?_
        have := c2 b t z g1
        omega
      obtain ⟨c, hc⟩ : ∃ c, cntS (m ++ [s]) 0 x = c + 1 := ⟨cntS (m ++ [s]) 0 x - 1, by omega⟩
      have hcl : c < (m ++ [s]).length := by rw [List.length_append, List.length_singleton]; omega
      have hc' := List.getElem?_eq_getElem hcl
      have sc : stp p os c st = some ((m ++ [s])[c]) := by
        rw [← hl c (by omega)]
        exact hc'
      refine ⟨c, (m ++ [s])[c], hc, hc', ⟨sc, c2 c _ (by omega) hc', fun z hz => ?_⟩, fun _ => by rw [List.length_append, List.length_singleton]; omega⟩
      have e3 : (m ++ [s])[c + 1]? = some z := by
        rw [hl (c + 1) (by omega)]
        show (stp p os c st).bind (hop p os) = _
        rw [sc]
        exact hz
      have := c3 (c + 1) z (by omega) e3
      omega
/-! ### stops as data -/
theorem fol_first {p : Nat} {s : Nat × Nat} {r : List (Nat × Nat)} : fol p [] (s :: r) = fol p [s] r := by simp [fol]
def plD (s : Nat × Nat) : PyData := .tuple [.int s.1, .int s.2]
theorem plD_shaped (s : Nat × Nat) : PySem.SeqAt.shaped (plD s) = true := by
  show ((plD s).canLay0 && decide ((plD s).depth ≤ 64)) = true
  rw [Bool.and_eq_true]
  refine ⟨by simp [plD, PyData.canLay0, PyData.canLayAll0], decide_eq_true ?_⟩
  have e : (plD s).depth = 1 := by simp [plD, PyData.depth, PyData.depthAll]
  omega
theorem plDs_lay : ∀ l : List (Nat × Nat), PyData.canLayAll0 (l.map plD) = true
  | [] => by simp [PyData.canLayAll0]
  | s :: l => by
    have h : (plD s).canLay0 = true := by simp [plD, PyData.canLay0, PyData.canLayAll0]
    simp [PyData.canLayAll0, h, plDs_lay l]
theorem plDs_depth : ∀ l : List (Nat × Nat), PyData.depthAll (l.map plD) ≤ 1
  | [] => by simp [PyData.depthAll]
  | s :: l => by
    have h1 := plDs_depth l
    have h2 : (plD s).depth = 1 := by simp [plD, PyData.depth, PyData.depthAll]
    simp only [List.map_cons, PyData.depthAll]
    omega
theorem plDs_shaped (l : List (Nat × Nat)) : PySem.SeqAt.shaped (.list (l.map plD)) = true := by
  have h1 := plDs_depth l
  show (PyData.canLay0 (.list (l.map plD)) && decide (PyData.depth (.list (l.map plD)) ≤ 64)) = true
  rw [Bool.and_eq_true]
  refine ⟨by simp only [PyData.canLay0]; exact plDs_lay l, decide_eq_true ?_⟩
  simp only [PyData.depth]
  omega
theorem plD_eqv (s t : Nat × Nat) : PyData.eqv (plD s) (plD t) = decide (s = t) := by
  obtain ⟨a, b⟩ := s
  obtain ⟨c, d⟩ := t
  have e : PyData.eqv (plD (a, b)) (plD (c, d)) = (((a : Int) == (c : Int)) && (((b : Int) == (d : Int)) && true)) := by simp only [plD, PyData.eqv, PyData.eqvAll]
  rw [e]
  by_cases h : ((a, b) : Nat × Nat) = (c, d)
  · cases h
    simp
  · rw [decide_eq_false h]
    by_cases h1 : a = c
    · have h2 : ¬ (b : Int) = (d : Int) := fun z => h (by rw [h1, show b = d by omega])
      have e2 : ((b : Int) == (d : Int)) = false := beq_eq_false_iff_ne.mpr h2
      rw [e2, Bool.false_and, Bool.and_false]
    · have e2 : ((a : Int) == (c : Int)) = false := beq_eq_false_iff_ne.mpr (by omega)
      rw [e2, Bool.false_and]
theorem stop_dp {K : PySem.W.Frag} {H : Hp} {v : V} {s : Nat × Nat} (h : StopAt H v s) : Dp K H v (plD s) := by
  obtain ⟨u, rfl, hu⟩ := h
  exact .tup (SqT.of hu) (.cons (.int _) (.cons (.int _) .nil))
theorem stops_dp {K : PySem.W.Frag} {H : Hp} {vs : List V} {l : List (Nat × Nat)} (h : Paired (StopAt H) vs l) : DpAll K H vs (l.map plD) := by
  induction h with
  | nil => exact .nil
  | cons r _ ih => exact .cons (stop_dp r) ih
/-! ### days of a house: plain -/
/-- the three lists of day_sets: by the days below n -/
def arr (p h : Nat) (os : List Od) (hs n : Nat) : List Nat := (List.range n).filter fun d => (folR p h os (hs, d)).2.isNone
def chs (p h : Nat) (os : List Od) (hs n : Nat) : List Nat := (List.range n).filter fun d => (folR p h os (hs, d)).2.isSome
def ret (p h : Nat) (os : List Od) (hs n : Nat) : List Nat := (List.range n).filter fun d => ((folR p h os (hs, d)).1.drop 1).any fun s => decide (s.1 = hs)
theorem filter_nints {n : Nat} {f : Nat → Bool} (h : f n = true) : nints ((List.range (n + 1)).filter f) = nints ((List.range n).filter f) ++ [.int (n : Nat)] := by
  rw [filter_range_succ', if_pos h]
  unfold nints
  rw [List.map_append]
  rfl
theorem filter_nints' {n : Nat} {f : Nat → Bool} (h : f n = false) : nints ((List.range (n + 1)).filter f) = nints ((List.range n).filter f) := by
  rw [filter_range_succ', if_neg (by rw [h]; exact Bool.false_ne_true), List.append_nil]
theorem nints_small {n : Nat} {f : Nat → Bool} (h : n ≤ 30) : (nints ((List.range n).filter f)).length < sizeLine := by
  unfold nints
  rw [List.length_map]
  exact small1000 (Nat.le_trans (List.length_filter_le _ _) (by rw [List.length_range]; omega))
/-! ### equal data (nested lists and tuples of None, bools, ints, texts) -/
def Flat1 (v : V) : Prop := v = .non ∨ (∃ b, v = .bl b) ∨ (∃ i, v = .int i) ∨ ∃ s, v = .str s
def Eqv : Nat → Hp → V → V → Prop
  | 0, _, a, b => a = b ∧ Flat1 a
  | n + 1, H, a, b => (a = b ∧ Flat1 a) ∨ (∃ p q xs ys, a = .ref p ∧ b = .ref q ∧ H p = some (.tup xs) ∧ H q = some (.tup ys) ∧ xs.length ≤ 1000 ∧ Paired (Eqv n H) xs ys) ∨
      ∃ p q xs ys, a = .ref p ∧ b = .ref q ∧ H p = some (.lst xs) ∧ H q = some (.lst ys) ∧ xs.length ≤ 1000 ∧ Paired (Eqv n H) xs ys
theorem Eqv.flat {n : Nat} {H : Hp} {a b : V} (e : a = b) (f : Flat1 a) : Eqv n H a b := by
  cases n with
  | zero => exact ⟨e, f⟩
  | succ n => exact .inl ⟨e, f⟩
theorem Eqv.int {n : Nat} {H : Hp} {i : Int} : Eqv n H (.int i) (.int i) := Eqv.flat rfl (.inr (.inr (.inl ⟨i, rfl⟩)))
theorem Eqv.non {n : Nat} {H : Hp} : Eqv n H .non .non := Eqv.flat rfl (.inl rfl)
theorem Eqv.same : ∀ {n : Nat} {H H' : Hp} {a b : V}, Same H H' → Eqv n H a b → Eqv n H' a b
  | 0, _, _, _, _, _, h => h
  | n + 1, H, H', a, b, s, h => by
    rcases h with h | ⟨p, q, xs, ys, e1, e2, h1, h2, h3, h4⟩ | ⟨p, q, xs, ys, e1, e2, h1, h2, h3, h4⟩
    · exact .inl h
    · exact .inr (.inl ⟨p, q, xs, ys, e1, e2, s _ _ h1, s _ _ h2, h3, Paired.mapP h4 fun _ _ z => Eqv.same s z⟩)
    · exact .inr (.inr ⟨p, q, xs, ys, e1, e2, s _ _ h1, s _ _ h2, h3, Paired.mapP h4 fun _ _ z => Eqv.same s z⟩)
theorem optEqv {H : Hp} {v v' : V} {o : Option (Nat × Nat)} (h : OptStop H v o) (h' : OptStop H v' o) : Eqv 1 H v v' := by
  cases o with
  | none =>
    obtain rfl : v = .non := h
    obtain rfl : v' = .non := h'
    exact Eqv.non
  | some s =>
    obtain ⟨u, rfl, hu⟩ := h
    obtain ⟨u2, rfl, hu2⟩ := h'
    exact .inr (.inl ⟨u, u2, _, _, rfl, rfl, hu, hu2, by show 2 ≤ 1000; decide, .cons Eqv.int (.cons Eqv.int .nil)⟩)
theorem OptStop.keep {H H' : Hp} {v : V} {o : Option (Nat × Nat)} (k : TupKeep H H') (h : OptStop H v o) : OptStop H' v o := by
  cases o with
  | none => exact h
  | some s => exact StopAt.keep k h
/-! ### the law -/
def spLaw (K : PySem.W.Frag) : Sp := fun vs H Q _ => ∃ (a : Addr) (ns : List Int), vs = [.ref a] ∧ SqL K H a (ns.map V.int) ∧ ns.length ≤ 63 ∧ ∀ H', Q (.bl true) H'
/-- all that the law's step leans on, at the heap H -/
structure StepAt (C : Addr) (H : Hp) (d ap x t : Addr) (p h : Nat) (os : List Od) (F : List Addr) : Prop where
  D : DAt H d
  pa : H ap = some (.tup [.int p, .int h, .ref t])
  po : OrdsTup H t os
  N : NetAt C H x p h os t F
theorem StepAt.keep {C : Addr} {H H' : Hp} {d ap x t : Addr} {p h : Nat} {os : List Od} {F : List Addr} (S : StepAt C H d ap x t p h os F) (s : Same H H') : StepAt C H' d ap x t p h os F :=
  ⟨S.D.but s, s _ _ S.pa, S.po.keep (tk_of s), S.N.same s⟩
theorem StepAt.but {C : Addr} {H H' : Hp} {d ap x t : Addr} {p h : Nat} {os : List Od} {F : List Addr} (S : StepAt C H d ap x t p h os F) (s : But d H H') (D' : DAt H' d) (nF : d ∉ F) : StepAt C H' d ap x t p h os F :=
  ⟨D', s.tk S.D _ _ S.pa, S.po.keep (s.tk S.D), S.N.but s (s.tk S.D) nF⟩
theorem StepAt.lst {C : Addr} {H : Hp} {d ap x t u : Addr} {p h : Nat} {os : List Od} {F : List Addr} {xs : List V} {o : HO} (S : StepAt C H d ap x t p h os F) (hu : H u = some (.lst xs)) (nd : d ≠ u) (nF : u ∉ F) : StepAt C (upd H u o) d ap x t p h os F := by
  have tk : TupKeep H (upd H u o) := TupKeep.lst hu
  exact ⟨S.D.updN nd, tk _ _ S.pa, S.po.keep tk, S.N.but .upd tk nF⟩
theorem StepAt.parts {C : Addr} {H : Hp} {d ap x t : Addr} {p h : Nat} {os : List Od} {F : List Addr} (S : StepAt C H d ap x t p h os F) : PartsAt H ap p h os := ⟨t, S.pa, S.po⟩
theorem ordsEqv {H : Hp} {t : Addr} {os : List Od} (h : OrdsTup H t os) (l : os.length ≤ 20) : Eqv 2 H (.ref t) (.ref t) := by
  obtain ⟨ts, ht, hP⟩ := h
  refine .inr (.inl ⟨t, t, ts, ts, rfl, rfl, ht, ht, by rw [hP.length]; omega, ?_⟩)
  clear l ht
  induction hP with
  | nil => exact .nil
  | cons r _ ih =>
    refine .cons ?_ ih
    obtain ⟨u, rfl, hu⟩ := r
    exact .inr (.inl ⟨u, u, _, _, rfl, rfl, hu, hu, by show 5 ≤ 1000; decide, .cons Eqv.int (.cons Eqv.int (.cons Eqv.int (.cons Eqv.int (.cons Eqv.int .nil))))⟩)
theorem nintsEqv {H : Hp} {a b : Addr} {l : List Nat} (ha : H a = some (.lst (nints l))) (hb : H b = some (.lst (nints l))) (hl : l.length ≤ 1000) : Eqv 1 H (.ref a) (.ref b) := by
  refine .inr (.inr ⟨a, b, _, _, rfl, rfl, ha, hb, by unfold nints; rw [List.length_map]; exact hl, ?_⟩)
  unfold nints
  clear ha hb hl
  induction l with
  | nil => exact .nil
  | cons n l ih => exact .cons ⟨rfl, .inr (.inr (.inl ⟨_, rfl⟩))⟩ ih
theorem stopsEqv {H : Hp} {a b : Addr} {xs ys : List V} {l : List (Nat × Nat)} (ha : H a = some (.lst xs)) (hb : H b = some (.lst ys)) (hx : Paired (StopAt H) xs l) (hy : Paired (StopAt H) ys l) (hl : l.length ≤ 1000) : Eqv 2 H (.ref a) (.ref b) := by
  refine .inr (.inr ⟨a, b, _, _, rfl, rfl, ha, hb, by rw [hx.length]; exact hl, ?_⟩)
  clear ha hb hl
  induction hx generalizing ys with
  | nil => cases hy; exact .nil
  | cons r _ ih =>
    cases hy with
    | cons r2 t2 =>
      refine .cons ?_ (ih t2)
      obtain ⟨u, rfl, hu⟩ := r
      obtain ⟨u2, rfl, hu2⟩ := r2
      exact .inr (.inl ⟨u, u2, _, _, rfl, rfl, hu, hu2, by show 2 ≤ 1000; decide, .cons (Eqv.int) (.cons Eqv.int .nil)⟩)
theorem optV_flat1 (o : Option Nat) : Flat1 (optV o) := by
  cases o with
  | none => exact .inl rfl
  | some k => exact .inr (.inr (.inl ⟨_, rfl⟩))
theorem Paired.last {α β : Type} {F : α → β → Prop} {xs : List α} {l : List β} {s : β} (h : Paired F xs (l ++ [s])) : ∃ ys v, xs = ys ++ [v] ∧ Paired F ys l ∧ F v s := by
  induction l generalizing xs with
  | nil =>
    cases h with
    | cons r t =>
      cases t
      exact ⟨[], _, rfl, .nil, r⟩
  | cons b l ih =>
    cases h with
    | cons r t =>
      obtain ⟨ys, v, rfl, h1, h2⟩ := ih t
      exact ⟨_ :: ys, v, rfl, .cons r h1, h2⟩
theorem Paired.take {α β : Type} {F : α → β → Prop} {xs : List α} {l : List β} (h : Paired F xs l) : ∀ n, Paired F (xs.take n) (l.take n) := by
  induction h with
  | nil =>
    intro n
    rw [List.take_nil, List.take_nil]
    exact .nil
  | cons r _ ih =>
    intro n
    cases n with
    | zero => exact .nil
    | succ n => exact .cons r (ih n)
theorem nints_dp {K : PySem.W.Frag} {H : Hp} {a : Addr} {l : List Nat} (h : H a = some (.lst (nints l))) : Dp K H (.ref a) (.list ((l.map fun (n : Nat) => (n : Int)).map PyData.int)) := by
  refine .lst (SqL.of h) ?_
  clear h
  unfold nints
  induction l with
  | nil => exact .nil
  | cons n l ih => exact .cons (.int _) ih
theorem nints_eqv (l : List Int) : PyData.eqv (.list (l.map PyData.int)) (.list (l.map PyData.int)) = true :=
  PySem.SeqAt.eqv_refl _ (PySem.SeqAt.canLay_of_shaped (PySem.W.ke_shaped_ints l))
/-! ### loops: plain mathematics -/
theorem plc_shf {p k : Nat} (s : Nat × Nat) : plc p (shf (p * k) s) = plc p s := by
  unfold plc shf
  rw [Nat.add_mul_mod_self_left]
theorem plc_plc {p : Nat} (s : Nat × Nat) : plc p (plc p s) = plc p s := by
  unfold plc
  rw [Nat.mod_mod]
theorem shf_plc {p : Nat} (s : Nat × Nat) : s = shf (p * (s.2 / p)) (plc p s) := by
  obtain ⟨a, d⟩ := s
  show (a, d) = (a, d % p + p * (d / p))
  rw [Nat.add_comm, Nat.div_add_mod]
/-- a letter's place behind i hops -/
def pst (p : Nat) (os : List Od) (i : Nat) (q : Nat × Nat) : Option (Nat × Nat) := (stp p os i q).map (plc p)
theorem pst_shf {p i k : Nat} {os : List Od} (s : Nat × Nat) : pst p os i (shf (p * k) s) = pst p os i s := by
  unfold pst
  rw [stp_shf, Option.map_map]
  congr 1
  funext t
  exact plc_shf t
theorem pst_plc {p i : Nat} {os : List Od} (s : Nat × Nat) : pst p os i (plc p s) = pst p os i s := by
  conv => rhs; rw [shf_plc (p := p) s]
  rw [pst_shf]
theorem pst_add {p i j : Nat} {os : List Od} (s : Nat × Nat) : pst p os (i + j) s = (pst p os i s).bind (pst p os j) := by
  unfold pst
  rw [stp_add]
  cases stp p os i s with
  | none => rfl
  | some c => exact (pst_plc c).symm
theorem pst_zero {p : Nat} {os : List Od} (s : Nat × Nat) : pst p os 0 s = some (plc p s) := rfl
/-- l is a loop: the places that f goes through, again and again -/
structure CycF (p : Nat) (os : List Od) (l : List (Nat × Nat)) (f : Nat → Nat × Nat) (n : Nat) : Prop where
  n0 : 0 < n
  eq : l = (List.range n).map f
  nd : l.Nodup
  nx : ∀ i, pst p os 1 (f i) = some (f (i + 1))
  per : ∀ i, f (i + n) = f i
def Cyc (p : Nat) (os : List Od) (l : List (Nat × Nat)) : Prop := ∃ f n, CycF p os l f n
section
variable {p : Nat} {os : List Od} {l l' : List (Nat × Nat)} {f g : Nat → Nat × Nat} {n m : Nat}
theorem CycF.len (c : CycF p os l f n) : l.length = n := by rw [c.eq, List.length_map, List.length_range]
theorem CycF.get (c : CycF p os l f n) {i : Nat} (h : i < n) : l[i]? = some (f i) := by rw [c.eq, List.getElem?_map, List.getElem?_range h]; rfl
theorem CycF.perk (c : CycF p os l f n) (i : Nat) : ∀ k, f (i + n * k) = f i
  | 0 => rfl
  | k + 1 => by
    rw [Nat.mul_succ, ← Nat.add_assoc, c.per]
    exact c.perk i k
theorem CycF.mod (c : CycF p os l f n) (i : Nat) : f (i % n) = f i := by
  have h := c.perk (i % n) (i / n)
  rw [Nat.mod_add_div] at h
  exact h.symm
theorem CycF.mem (c : CycF p os l f n) {x : Nat × Nat} : x ∈ l ↔ ∃ i, x = f i := by
  rw [c.eq, List.mem_map]
  constructor
  · rintro ⟨i, _, rfl⟩
    exact ⟨i, rfl⟩
  · rintro ⟨i, rfl⟩
    exact ⟨i % n, List.mem_range.mpr (Nat.mod_lt _ c.n0), c.mod i⟩
theorem CycF.inj (c : CycF p os l f n) {i j : Nat} (hi : i < n) (hj : j < n) (e : f i = f j) : i = j := by
  have a := c.get hi
  have b := c.get hj
  rw [← e] at b
  exact (List.getElem?_inj (by rw [c.len]; exact hi) c.nd).mp (a.trans b.symm)
theorem CycF.place (c : CycF p os l f n) (i : Nat) : plc p (f i) = f i := by
  have h := c.nx (i + (n - 1))
  have n0 := c.n0
  rw [show i + (n - 1) + 1 = i + n by omega, c.per] at h
  unfold pst at h
  obtain ⟨t, _, e⟩ := Option.map_eq_some_iff.mp h
  rw [← e]
  exact plc_plc t
theorem CycF.steps (c : CycF p os l f n) (i : Nat) : ∀ k, pst p os k (f i) = some (f (i + k))
  | 0 => by rw [pst_zero, c.place]; rfl
  | k + 1 => by
    rw [pst_add, c.steps i k]
    exact c.nx (i + k)
/-- the rest of both, from a shared place -/
theorem CycF.along (c : CycF p os l f n) (d : CycF p os l' g m) {i j : Nat} (e : f i = g j) (k : Nat) : f (i + k) = g (j + k) := by
  have a := c.steps i k
  rw [e, d.steps j k] at a
  exact (Option.some.inj a).symm
theorem CycF.le_of (c : CycF p os l f n) (d : CycF p os l' g m) {i j : Nat} (e : f i = g j) : n ≤ m := by
  refine Nat.le_of_not_lt fun lt => ?_
  have h := c.along d e m
  rw [d.per, ← e, ← c.mod (i + m), ← c.mod i] at h
  have n0 := c.n0
  have m0 := d.n0
  have := c.inj (Nat.mod_lt _ n0) (Nat.mod_lt _ n0) h
  have e2 : (i + m) % n = (i % n + m) % n := by rw [Nat.mod_add_mod]
  rw [e2] at this
  have hi := Nat.mod_lt i n0
  by_cases z : i % n + m < n
  · rw [Nat.mod_eq_of_lt z] at this
    omega
  · rw [Nat.mod_eq_sub_mod (by omega), Nat.mod_eq_of_lt (by omega)] at this
    omega
theorem CycF.same_len (c : CycF p os l f n) (d : CycF p os l' g m) {i j : Nat} (e : f i = g j) : n = m := Nat.le_antisymm (c.le_of d e) (d.le_of c e.symm)
theorem CycF.sub (c : CycF p os l f n) (d : CycF p os l' g m) {i j : Nat} (e : f i = g j) {x : Nat × Nat} (hx : x ∈ l) : x ∈ l' := by
  obtain ⟨k, rfl⟩ := c.mem.mp hx
  have h := c.along d e (k + (n * (i + 1) - i))
  have n0 := c.n0
  have hge : i ≤ n * (i + 1) := Nat.le_trans (Nat.le_succ i) (Nat.le_mul_of_pos_left _ n0)
  rw [show i + (k + (n * (i + 1) - i)) = k + n * (i + 1) by omega, c.perk] at h
  rw [h]
  exact d.mem.mpr ⟨_, rfl⟩
theorem CycF.eq_of_head (c : CycF p os l f n) (d : CycF p os l' g m) (e : f 0 = g 0) : l = l' := by
  obtain rfl := c.same_len d e
  rw [c.eq, d.eq]
  refine List.map_congr_left fun i _ => ?_
  have := c.along d e i
  rw [Nat.zero_add] at this
  exact this
theorem CycF.turn (c : CycF p os l f n) : CycF p os (l.drop 1 ++ l.take 1) (fun i => f (i + 1)) n := by
  have n0 := c.n0
  have hl : l.drop 1 ++ l.take 1 = (List.range n).map fun i => f (i + 1) := by
    obtain ⟨k, rfl⟩ : ∃ k, n = k + 1 := ⟨n - 1, by omega⟩
    have e1 : l = f 0 :: (List.range k).map fun i => f (i + 1) := by
      rw [c.eq, List.range_succ_eq_map, List.map_cons, List.map_map]
      rfl
    rw [e1, List.range_succ, List.map_append]
    show (List.range k).map _ ++ [f 0] = _
    have := c.per 0
    rw [Nat.zero_add] at this
    rw [← this]
    rfl
  refine ⟨n0, hl, ?_, fun i => c.nx (i + 1), fun i => ?_⟩
  · refine List.Perm.nodup (l := l) ?_ c.nd
    have h := List.perm_append_comm (l₁ := l.take 1) (l₂ := l.drop 1)
    rw [List.take_append_drop] at h
    exact h
  · show f (i + n + 1) = f (i + 1)
    rw [show i + n + 1 = (i + 1) + n by omega, c.per]
end
/-- stops, one before the other -/
def ltS (s t : Nat × Nat) : Bool := if s.1 = t.1 then decide (s.2 < t.2) else decide (s.1 < t.1)
theorem ltS_iff {s t : Nat × Nat} : ltS s t = true ↔ s.1 < t.1 ∨ (s.1 = t.1 ∧ s.2 < t.2) := by
  unfold ltS
  split
  · rename_i h
    rw [decide_eq_true_iff]
    omega
  · rename_i h
    rw [decide_eq_true_iff]
    omega
theorem ltS_no {s t : Nat × Nat} : ltS s t = false ↔ ¬ (s.1 < t.1 ∨ (s.1 = t.1 ∧ s.2 < t.2)) := by
  rw [← ltS_iff]
  cases ltS s t <;> simp
theorem ltS_anti {s t : Nat × Nat} (h1 : ltS s t = false) (h2 : ltS t s = false) : s = t := by
  have a := ltS_no.mp h1
  have b := ltS_no.mp h2
  exact Prod.ext (by omega) (by omega)
theorem ltS_trans {s t u : Nat × Nat} (h1 : ltS s t = true) (h2 : ltS t u = true) : ltS s u = true := by
  have a := ltS_iff.mp h1
  have b := ltS_iff.mp h2
  exact ltS_iff.mpr (by omega)
/-- the least stop -/
def minS (x : Nat × Nat) (xs : List (Nat × Nat)) : Nat × Nat := xs.foldl (fun a y => if ltS y a then y else a) x
theorem minS_spec : ∀ (xs : List (Nat × Nat)) (x : Nat × Nat), minS x xs ∈ x :: xs ∧ ∀ y ∈ x :: xs, ltS y (minS x xs) = false
  | [], x => ⟨List.mem_cons_self, fun y hy => by
      rw [List.mem_singleton.mp hy]
      exact ltS_no.mpr (by show ¬ (x.1 < x.1 ∨ (x.1 = x.1 ∧ x.2 < x.2)); omega)⟩
  | z :: r, x => by
    show minS (if ltS z x then z else x) r ∈ _ ∧ ∀ y ∈ _, ltS y (minS (if ltS z x then z else x) r) = false
    obtain ⟨h1, h2⟩ := minS_spec r (if ltS z x then z else x)
    generalize hw : (if ltS z x then z else x) = w at h1 h2
    have hwm : w = z ∨ w = x := by
      rw [← hw]
      split
      · exact .inl rfl
      · exact .inr rfl
    have hwl : ltS z w = false ∧ ltS x w = false := by
      by_cases c : ltS z x = true
      · rw [if_pos c] at hw
        subst hw
        have := ltS_iff.mp c
        exact ⟨ltS_no.mpr (by omega), ltS_no.mpr (by omega)⟩
      · rw [if_neg c] at hw
        subst hw
        exact ⟨Bool.eq_false_iff.mpr c, ltS_no.mpr (by omega)⟩
    refine ⟨?_, fun y hy => ?_⟩
    · rcases List.mem_cons.mp h1 with e | e
      · rw [e]
        rcases hwm with e | e <;> rw [e] <;> simp
      · exact List.mem_cons_of_mem _ (List.mem_cons_of_mem _ e)
    · have key : ∀ u, ltS u w = false → ltS u (minS w r) = false := fun u hu => by
        have a := ltS_no.mp hu
        have b := ltS_no.mp (h2 w List.mem_cons_self)
        exact ltS_no.mpr (by omega)
      rcases List.mem_cons.mp hy with e | e
      · rw [e]
        exact key x hwl.2
      · rcases List.mem_cons.mp e with e | e
        · rw [e]
          exact key z hwl.1
        · exact h2 y (List.mem_cons_of_mem _ e)
/-- a list that begins with its least stop -/
def hm : List (Nat × Nat) → Bool
  | [] => false
  | x :: xs => decide (x = minS x xs)
theorem hm_iff {x : Nat × Nat} {xs : List (Nat × Nat)} : hm (x :: xs) = true ↔ ∀ y ∈ x :: xs, ltS y x = false := by
  unfold hm
  rw [decide_eq_true_iff]
  obtain ⟨h1, h2⟩ := minS_spec xs x
  constructor
  · intro e
    rw [← e] at h2
    exact h2
  · intro h
    exact ltS_anti (h2 x List.mem_cons_self) (h _ h1)
section
variable {p : Nat} {os : List Od} {l l' : List (Nat × Nat)}
theorem Cyc.cons (c : Cyc p os l) : ∃ x xs, l = x :: xs := by
  obtain ⟨f, n, c⟩ := c
  cases l with
  | nil =>
    have a := c.len
    have b := c.n0
    simp at a
    omega
  | cons x xs => exact ⟨x, xs, rfl⟩
/-- loops that share a stop and begin with their least are the same -/
theorem Cyc.uniq (c : Cyc p os l) (d : Cyc p os l') (h : hm l = true) (h' : hm l' = true) {x : Nat × Nat} (hx : x ∈ l) (hx' : x ∈ l') : l = l' := by
  obtain ⟨f, n, c⟩ := c
  obtain ⟨g, m, d⟩ := d
  obtain ⟨i, rfl⟩ := c.mem.mp hx
  obtain ⟨j, e⟩ := d.mem.mp hx'
  have hf : l[0]? = some (f 0) := c.get c.n0
  have hg : l'[0]? = some (g 0) := d.get d.n0
  have m1 : f 0 ∈ l' := c.sub d e (List.mem_of_getElem? hf)
  have m2 : g 0 ∈ l := d.sub c e.symm (List.mem_of_getElem? hg)
  refine c.eq_of_head d ?_
  cases l with
  | nil => cases hf
  | cons x xs =>
    cases l' with
    | nil => cases hg
    | cons y ys =>
      obtain rfl : x = f 0 := Option.some.inj hf
      obtain rfl : y = g 0 := Option.some.inj hg
      exact ltS_anti (hm_iff.mp h' _ m1) (hm_iff.mp h _ m2)
theorem Cyc.turn (c : Cyc p os l) : Cyc p os (l.drop 1 ++ l.take 1) := by
  obtain ⟨f, n, c⟩ := c
  exact ⟨_, _, c.turn⟩
theorem turn_mem {x : Nat × Nat} : x ∈ l.drop 1 ++ l.take 1 ↔ x ∈ l := by
  have h := List.perm_append_comm (l₁ := l.take 1) (l₂ := l.drop 1)
  rw [List.take_append_drop] at h
  exact h.mem_iff.symm
end
/-! ### the loops of a net: plain mathematics -/
theorem pst_house {p h : Nat} {os : List Od} {st : Nat × Nat} (ok : NetOk p h os) (hh : st.1 < h) : ∀ (i : Nat) {s : Nat × Nat}, stp p os i st = some s → s.1 < h
  | 0, s, e => by
    cases e
    exact hh
  | i + 1, s, e => by
    obtain ⟨c, hc, e⟩ := Option.bind_eq_some_iff.mp (show (stp p os i st).bind (hop p os) = some s from e)
    exact hop_house ok e
theorem pst_get {p i : Nat} {os : List Od} {st s : Nat × Nat} (e : stp p os i st = some s) : pst p os i st = some (plc p s) := by
  unfold pst
  rw [e]
  rfl
theorem pst_next {p i : Nat} {os : List Od} {st s t : Nat × Nat} (e : stp p os i st = some s) (e2 : stp p os (i + 1) st = some t) : pst p os 1 (plc p s) = some (plc p t) := by
  have h := pst_add (p := p) (os := os) (i := i) (j := 1) st
  rw [pst_get e, pst_get e2] at h
  exact h.symm
/-- what a letter that chases goes through again and again, from where it comes back to -/
def rawOf (p h : Nat) (os : List Od) (q : Nat × Nat) : Option (List (Nat × Nat)) := match (folR p h os q).2 with
  | none => none
  | some b => some (((folR p h os q).1.dropLast.drop b).map (plc p))
/-- the loop of a letter that comes back to its first stop -/
def lpOf (p h : Nat) (os : List Od) (q : Nat × Nat) : Option (List (Nat × Nat)) := match (folR p h os q).2 with
  | some 0 => some ((folR p h os q).1.dropLast.map (plc p))
  | _ => none
theorem raw_cycF {p h : Nat} {os : List Od} {q : Nat × Nat} {l : List (Nat × Nat)} (ok : NetOk p h os) (hh : q.1 < h) (e : rawOf p h os q = some l) : Cyc p os l ∧ (∀ x ∈ l, x.1 < h) ∧
    ∃ m s b, folR p h os q = (m ++ [s], some b) ∧ l = (m.drop b).map (plc p) ∧ plc p s ∈ l ∧ b < m.length ∧ ∀ x xs, l = x :: xs → ∃ t, m[b]? = some t ∧ x = plc p t := by
  rcases folR_cases ok hh with ⟨l', e', _⟩ | ⟨m, s, b, t, k, e', hl, hb, hs, hk, nd⟩
  · unfold rawOf at e
    rw [e'] at e
    cases e
  · unfold rawOf at e
    rw [e'] at e
    simp only [List.dropLast_concat] at e
    obtain rfl := Option.some.inj e
    have hbl : b < m.length := (List.getElem?_eq_some_iff.mp hb).1
    have hget : ∀ i, i < m.length → ∃ c, m[i]? = some c ∧ stp p os i q = some c := fun i hi => by
      have a := hl i (Nat.le_of_lt hi)
      rw [List.getElem?_append_left hi] at a
      exact ⟨m[i], List.getElem?_eq_getElem hi, a.symm.trans (List.getElem?_eq_getElem hi)⟩
    have hgs : stp p os m.length q = some s := by
      have a := hl m.length (Nat.le_refl _)
      rw [List.getElem?_append_right (Nat.le_refl _), Nat.sub_self] at a
      exact a.symm
    have hst : plc p s = plc p t := by rw [hs, plc_shf]
    have n0 : 0 < m.length - b := by omega
    let f : Nat → Nat × Nat := fun i => plc p (m.getD (b + i % (m.length - b)) (0, 0))
    have hf : ∀ i, i < m.length - b → ∃ c, m[b + i]? = some c ∧ stp p os (b + i) q = some c ∧ f i = plc p c := fun i hi => by
      obtain ⟨c, h1, h2⟩ := hget (b + i) (by omega)
      refine ⟨c, h1, h2, ?_⟩
      show plc p (m.getD (b + i % (m.length - b)) (0, 0)) = _
      rw [Nat.mod_eq_of_lt hi, List.getD_eq_getElem?_getD, h1]
      rfl
    have per : ∀ i, f (i + (m.length - b)) = f i := fun i => by
      show plc p (m.getD (b + (i + (m.length - b)) % (m.length - b)) (0, 0)) = _
      rw [Nat.add_mod_right]
    have modf : ∀ i, f (i % (m.length - b)) = f i := fun i => by
      show plc p (m.getD (b + (i % (m.length - b)) % (m.length - b)) (0, 0)) = _
      rw [Nat.mod_mod]
    have eql : (m.drop b).map (plc p) = (List.range (m.length - b)).map f := by
      refine List.ext_getElem? fun i => ?_
      rw [List.getElem?_map, List.getElem?_drop, List.getElem?_map]
      by_cases hi : i < m.length - b
      · obtain ⟨c, h1, _, h3⟩ := hf i hi
        rw [h1, List.getElem?_range hi]
        show some (plc p c) = some (f i)
        rw [h3]
      · rw [List.getElem?_eq_none (by omega), List.getElem?_eq_none (by rw [List.length_range]; omega)]
        rfl
    have nx : ∀ i, pst p os 1 (f i) = some (f (i + 1)) := fun i => by
      have hi := Nat.mod_lt i n0
      obtain ⟨c, h1, h2, h3⟩ := hf _ hi
      rw [← modf i, h3]
      by_cases z : i % (m.length - b) + 1 < m.length - b
      · obtain ⟨c', _, g2, g3⟩ := hf _ z
        have e1 : f (i + 1) = f (i % (m.length - b) + 1) := by rw [← modf (i + 1), ← modf (i % (m.length - b) + 1), Nat.mod_add_mod]
        rw [e1, g3]
        exact pst_next h2 g2
      · have e1 : f (i + 1) = f 0 := by
          rw [← modf (i + 1), ← Nat.mod_add_mod, show i % (m.length - b) + 1 = m.length - b by omega, Nat.mod_self]
        obtain ⟨c', k1, _, k3⟩ := hf 0 n0
        rw [Nat.add_zero] at k1
        obtain rfl : t = c' := Option.some.inj (hb.symm.trans k1)
        rw [e1, k3, ← hst]
        refine pst_next h2 ?_
        rw [show b + i % (m.length - b) + 1 = m.length by omega]
        exact hgs
    have nd2 : ((m.drop b).map (plc p)).Nodup := by
      rw [List.map_drop]
      exact nd.sublist (List.drop_sublist _ _)
    refine ⟨⟨f, _, n0, eql, nd2, nx, per⟩, fun x hx => ?_, m, s, b, e', rfl, ?_, hbl, fun x xs ex => ?_⟩
    · obtain ⟨c, hc, rfl⟩ := List.mem_map.mp hx
      obtain ⟨i, hi⟩ := List.getElem?_of_mem (List.mem_of_mem_drop hc)
      obtain ⟨c', k1, k2⟩ := hget i (List.getElem?_eq_some_iff.mp hi).1
      obtain rfl : c' = c := Option.some.inj (k1.symm.trans hi)
      exact (show c'.1 < h from pst_house ok hh i k2)
    · rw [hst]
      refine List.mem_map.mpr ⟨t, List.mem_of_getElem? (i := 0) ?_, rfl⟩
      rw [List.getElem?_drop]
      exact hb
    · have h0 : ((m.drop b).map (plc p))[0]? = some x := by rw [ex]; rfl
      rw [List.getElem?_map, List.getElem?_drop, Nat.add_zero, hb] at h0
      exact ⟨t, hb, (Option.some.inj h0).symm⟩
theorem lp_raw {p h : Nat} {os : List Od} {q : Nat × Nat} {l : List (Nat × Nat)} (e : lpOf p h os q = some l) : rawOf p h os q = some l := by
  unfold lpOf at e
  unfold rawOf
  split at e
  · rename_i h2
    rw [h2]
    exact e
  · cases e
theorem lp_cyc {p h : Nat} {os : List Od} {q : Nat × Nat} {l : List (Nat × Nat)} (ok : NetOk p h os) (hh : q.1 < h) (e : lpOf p h os q = some l) : Cyc p os l ∧ (∀ x ∈ l, x.1 < h) ∧ ∃ xs, l = plc p q :: xs := by
  obtain ⟨c, hx, m, s, b, e1, e2, _, hb, hd⟩ := raw_cycF ok hh (lp_raw e)
  refine ⟨c, hx, ?_⟩
  obtain ⟨x, xs, rfl⟩ := c.cons
  refine ⟨xs, ?_⟩
  obtain ⟨t, ht, rfl⟩ := hd x xs rfl
  unfold lpOf at e
  rw [e1] at e
  have b0 : b = 0 := by
    cases b with
    | zero => rfl
    | succ n => cases e
  subst b0
  have : (way p os (h * p + 1) q)[0]? = some q := by
    rw [show way p os (h * p + 1) q = rest p os (h * p + 1) (some q) from rfl, rest_succ]
    rfl
  rcases folR_cases ok hh with ⟨l', e', _⟩ | ⟨m', s', b', t', k, e', hl, _⟩
  · rw [e1] at e'
    cases e'
  · rw [e1] at e'
    have e5 := (Prod.mk.inj e').1
    have h0 := hl 0 (Nat.zero_le _)
    rw [← e5, List.getElem?_append_left hb, ht] at h0
    obtain rfl : t = q := Option.some.inj h0
    rfl
/-- a letter that is posted on a loop comes back to its first stop -/
theorem cyc_lp {p h n : Nat} {os : List Od} {l : List (Nat × Nat)} {f : Nat → Nat × Nat} (ok : NetOk p h os) (c : CycF p os l f n) (hq : (f 0).1 < h) : lpOf p h os (f 0) = some l ∧ (folR p h os (f 0)).2 = some 0 := by
  have st : ∀ i, ∃ s, stp p os i (f 0) = some s ∧ plc p s = f i := fun i => by
    have h1 := c.steps 0 i
    rw [Nat.zero_add] at h1
    exact Option.map_eq_some_iff.mp h1
  rcases folR_cases ok hq with ⟨l', _, _, hl, _⟩ | ⟨m, s, b, t, k, e', hl, hb, hs, hk, nd⟩
  · obtain ⟨s, h1, _⟩ := st l'.length
    rw [← hl, List.getElem?_eq_none (Nat.le_refl _)] at h1
    cases h1
  · have hbl : b < m.length := (List.getElem?_eq_some_iff.mp hb).1
    have n0 := c.n0
    have hmf : m.map (plc p) = (List.range m.length).map f := by
      refine List.ext_getElem? fun i => ?_
      rw [List.getElem?_map, List.getElem?_map]
      by_cases hi : i < m.length
      · have a := hl i (Nat.le_of_lt hi)
        rw [List.getElem?_append_left hi] at a
        obtain ⟨s', h1, h2⟩ := st i
        rw [a, h1, List.getElem?_range hi]
        show some (plc p s') = some (f i)
        rw [h2]
      · rw [List.getElem?_eq_none (by omega), List.getElem?_eq_none (by rw [List.length_range]; omega)]
        rfl
    have fs : f m.length = f b := by
      have a := hl m.length (Nat.le_refl _)
      rw [List.getElem?_append_right (Nat.le_refl _), Nat.sub_self] at a
      obtain ⟨s', h1, h2⟩ := st m.length
      have e1 : s = s' := Option.some.inj (a.trans h1)
      have a2 := hl b (Nat.le_of_lt hbl)
      rw [List.getElem?_append_left hbl, hb] at a2
      obtain ⟨t', h3, h4⟩ := st b
      have e2 : t = t' := Option.some.inj (a2.trans h3)
      rw [← h2, ← h4, ← e1, ← e2, hs, plc_shf]
    have hle : m.length ≤ n := by
      refine Nat.le_of_not_lt fun lt => ?_
      have a1 : (m.map (plc p))[n]? = some (f n) := by rw [hmf, List.getElem?_map, List.getElem?_range lt]; rfl
      have a2 : (m.map (plc p))[0]? = some (f 0) := by rw [hmf, List.getElem?_map, List.getElem?_range (by omega)]; rfl
      have p0 := c.per 0
      rw [Nat.zero_add] at p0
      rw [p0] at a1
      have := (List.getElem?_inj (by rw [List.length_map]; exact lt) nd).mp (a1.trans a2.symm)
      omega
    have hln : m.length = n := by
      refine Nat.le_antisymm hle (Nat.le_of_not_lt fun lt => ?_)
      have := c.inj lt (by omega) fs
      omega
    have b0 : b = 0 := by
      have p0 := c.per 0
      rw [Nat.zero_add, ← hln] at p0
      rw [p0] at fs
      exact (c.inj n0 (by omega) fs).symm
    subst b0
    unfold lpOf
    rw [e']
    refine ⟨?_, rfl⟩
    show some ((m ++ [s]).dropLast.map (plc p)) = _
    rw [List.dropLast_concat, hmf, hln, ← c.eq]
/-- the loop's turn that begins with its least stop -/
def canon (p h : Nat) (os : List Od) (l : List (Nat × Nat)) : List (Nat × Nat) := (lpOf p h os (minS (l.headD (0, 0)) l.tail)).getD []
theorem CycF.turns {p n : Nat} {os : List Od} {l : List (Nat × Nat)} {f : Nat → Nat × Nat} (c : CycF p os l f n) : ∀ i, ∃ l', CycF p os l' (fun j => f (i + j)) n ∧ ∀ x, x ∈ l' ↔ x ∈ l
  | 0 => ⟨l, by simpa using c, fun _ => Iff.rfl⟩
  | i + 1 => by
    obtain ⟨l', c', h'⟩ := c.turns i
    refine ⟨_, ?_, fun x => turn_mem.trans (h' x)⟩
    have := c'.turn
    have e : (fun j => f (i + (j + 1))) = fun j => f (i + 1 + j) := funext fun j => by rw [show i + (j + 1) = i + 1 + j by omega]
    rw [e] at this
    exact this
theorem canon_spec {p h : Nat} {os : List Od} {l : List (Nat × Nat)} (ok : NetOk p h os) (c : Cyc p os l) (hl : ∀ x ∈ l, x.1 < h) :
    Cyc p os (canon p h os l) ∧ hm (canon p h os l) = true ∧ (∀ x, x ∈ canon p h os l ↔ x ∈ l) ∧ ∃ q xs, canon p h os l = q :: xs ∧ lpOf p h os q = some (canon p h os l) ∧ plc p q = q ∧ q.1 < h := by
  obtain ⟨x, xs, rfl⟩ := c.cons
  obtain ⟨f, n, c⟩ := c
  obtain ⟨h1, h2⟩ := minS_spec xs x
  obtain ⟨i, ei⟩ := c.mem.mp h1
  obtain ⟨l', c', hm'⟩ := c.turns i
  have hq : (f (i + 0)).1 < h := by
    rw [Nat.add_zero, ← ei]
    exact hl _ h1
  obtain ⟨g1, _⟩ := cyc_lp ok c' hq
  have ec : canon p h os (x :: xs) = l' := by
    show (lpOf p h os (minS x xs)).getD [] = l'
    rw [ei]
    show (lpOf p h os (f i)).getD [] = l'
    rw [show f i = f (i + 0) from rfl, g1]
    rfl
  rw [ec]
  have h0 : l'[0]? = some (f (i + 0)) := c'.get c'.n0
  obtain ⟨y, ys, rfl⟩ := Cyc.cons ⟨_, _, c'⟩
  obtain rfl : y = f (i + 0) := Option.some.inj h0
  refine ⟨⟨_, _, c'⟩, hm_iff.mpr fun z hz => ?_, hm', _, _, rfl, g1, c.place _, hq⟩
  show ltS z (f i) = false
  rw [← ei]
  exact h2 z ((hm' z).mp hz)
theorem canon_eq {p h : Nat} {os : List Od} {l l' : List (Nat × Nat)} (ok : NetOk p h os) (c : Cyc p os l) (hl : ∀ x ∈ l, x.1 < h) (c' : Cyc p os l') (hm' : hm l' = true) {x : Nat × Nat} (hx : x ∈ l) (hx' : x ∈ l') : canon p h os l = l' := by
  obtain ⟨a1, a2, a3, _⟩ := canon_spec ok c hl
  exact a1.uniq c' a2 hm' ((a3 x).mpr hx) hx'
/-- all letters of a period -/
def lets (p h : Nat) : List (Nat × Nat) := (List.range h).flatMap fun a => (List.range p).map fun d => (a, d)
theorem mem_lets {p h : Nat} {q : Nat × Nat} : q ∈ lets p h ↔ q.1 < h ∧ q.2 < p := by
  unfold lets
  rw [List.mem_flatMap]
  constructor
  · rintro ⟨a, ha, hq⟩
    obtain ⟨d, hd, rfl⟩ := List.mem_map.mp hq
    exact ⟨List.mem_range.mp ha, List.mem_range.mp hd⟩
  · rintro ⟨h1, h2⟩
    exact ⟨q.1, List.mem_range.mpr h1, List.mem_map.mpr ⟨q.2, List.mem_range.mpr h2, rfl⟩⟩
theorem lets_pw {p h : Nat} : (lets p h).Pairwise fun a b => ltS a b = true := by
  unfold lets
  rw [List.pairwise_flatMap]
  refine ⟨fun a _ => ?_, ?_⟩
  · rw [List.pairwise_map]
    exact List.pairwise_lt_range.imp (R := fun x y => x < y) (S := fun d e => ltS (a, d) (a, e) = true) fun {d e} q => ltS_iff.mpr (.inr ⟨rfl, q⟩)
  · refine List.pairwise_lt_range.imp fun {a b} q => ?_
    intro x hx y hy
    obtain ⟨_, _, rfl⟩ := List.mem_map.mp hx
    obtain ⟨_, _, rfl⟩ := List.mem_map.mp hy
    exact ltS_iff.mpr (.inl q)
theorem lets_plc {p h : Nat} {q : Nat × Nat} (hq : q ∈ lets p h) : plc p q = q := by
  obtain ⟨_, h2⟩ := mem_lets.mp hq
  unfold plc
  rw [Nat.mod_eq_of_lt h2]
theorem lets_len {p h : Nat} : (lets p h).length = h * p := by
  unfold lets
  rw [List.length_flatMap]
  simp only [List.length_map, List.length_range]
  induction h with
  | zero => simp
  | succ h ih => rw [List.range_succ, List.map_append, List.sum_append, ih, Nat.succ_mul]; simp
/-- the loop that a letter's least stop begins -/
def goodL (p h : Nat) (os : List Od) (q : Nat × Nat) : Option (List (Nat × Nat)) := match lpOf p h os q with
  | some l => if hm l = true then some l else none
  | none => none
def loopsN (p h : Nat) (os : List Od) : List (List (Nat × Nat)) := (lets p h).filterMap (goodL p h os)
theorem goodL_some {p h : Nat} {os : List Od} {q : Nat × Nat} {l : List (Nat × Nat)} (e : goodL p h os q = some l) : lpOf p h os q = some l ∧ hm l = true := by
  unfold goodL at e
  split at e
  · rename_i l' e'
    split at e
    · rename_i hm'
      obtain rfl := Option.some.inj e
      exact ⟨e', hm'⟩
    · cases e
  · cases e
theorem goodL_of {p h : Nat} {os : List Od} {q : Nat × Nat} {l : List (Nat × Nat)} (e : lpOf p h os q = some l) (hm' : hm l = true) : goodL p h os q = some l := by
  unfold goodL
  rw [e]
  exact if_pos hm'
theorem mem_loopsN {p h : Nat} {os : List Od} (ok : NetOk p h os) {l : List (Nat × Nat)} : l ∈ loopsN p h os ↔ Cyc p os l ∧ hm l = true ∧ ∀ x ∈ l, x.1 < h := by
  unfold loopsN
  rw [List.mem_filterMap]
  constructor
  · rintro ⟨q, hq, e⟩
    obtain ⟨e1, e2⟩ := goodL_some e
    obtain ⟨c, hx, _⟩ := lp_cyc ok (mem_lets.mp hq).1 e1
    exact ⟨c, e2, hx⟩
  · rintro ⟨⟨f, n, c⟩, hm', hx⟩
    have h0 : f 0 ∈ l := c.mem.mpr ⟨0, rfl⟩
    have hp : (f 0).2 < p := by
      have := c.place 0
      have e : (f 0).2 % p = (f 0).2 := congrArg Prod.snd this
      rw [← e]
      exact Nat.mod_lt _ ok.p1
    exact ⟨f 0, mem_lets.mpr ⟨hx _ h0, hp⟩, goodL_of (cyc_lp ok c (hx _ h0)).1 hm'⟩
theorem loopsN_pw {p h : Nat} {os : List Od} (ok : NetOk p h os) : (loopsN p h os).Pairwise fun a b => ltS (a.headD (0, 0)) (b.headD (0, 0)) = true := by
  unfold loopsN
  rw [List.pairwise_filterMap]
  refine List.Pairwise.imp_of_mem ?_ (lets_pw (p := p) (h := h))
  intro a b ha hb q l el l' el'
  obtain ⟨_, _, xs, rfl⟩ := lp_cyc ok (mem_lets.mp ha).1 (goodL_some el).1
  obtain ⟨_, _, ys, rfl⟩ := lp_cyc ok (mem_lets.mp hb).1 (goodL_some el').1
  show ltS (plc p a) (plc p b) = true
  rw [lets_plc ha, lets_plc hb]
  exact q
theorem loopsN_nd {p h : Nat} {os : List Od} (ok : NetOk p h os) : (loopsN p h os).Nodup := (loopsN_pw ok).imp fun {a b} q e => by
  subst e
  have := ltS_iff.mp q
  omega
/-- what the law finds, letter by letter -/
def fndF (p h : Nat) (os : List Od) (acc : List (List (Nat × Nat))) (q : Nat × Nat) : List (List (Nat × Nat)) := match rawOf p h os q with
  | none => acc
  | some l => if canon p h os l ∈ acc then acc else acc ++ [canon p h os l]
def fnd (p h : Nat) (os : List Od) (qs : List (Nat × Nat)) : List (List (Nat × Nat)) := qs.foldl (fndF p h os) []
theorem fnd_snoc {p h : Nat} {os : List Od} {qs : List (Nat × Nat)} {q : Nat × Nat} : fnd p h os (qs ++ [q]) = fndF p h os (fnd p h os qs) q := by
  unfold fnd
  rw [List.foldl_append]
  rfl
theorem fndF_mem {p h : Nat} {os : List Od} {acc : List (List (Nat × Nat))} {q : Nat × Nat} {l : List (Nat × Nat)} : l ∈ fndF p h os acc q ↔ l ∈ acc ∨ ∃ r, rawOf p h os q = some r ∧ canon p h os r = l := by
  unfold fndF
  cases e : rawOf p h os q with
  | none => simp
  | some r =>
    show l ∈ (if canon p h os r ∈ acc then acc else acc ++ [canon p h os r]) ↔ _
    split
    · rename_i hm'
      constructor
      · exact .inl
      · rintro (a | ⟨r', e', rfl⟩)
        · exact a
        · cases e'
          exact hm'
    · rw [List.mem_append, List.mem_singleton]
      constructor
      · rintro (a | a)
        · exact .inl a
        · exact .inr ⟨r, rfl, a.symm⟩
      · rintro (a | ⟨r', e', a⟩)
        · exact .inl a
        · cases e'
          exact .inr a.symm
theorem fndF_nd {p h : Nat} {os : List Od} {acc : List (List (Nat × Nat))} {q : Nat × Nat} (nd : acc.Nodup) : (fndF p h os acc q).Nodup := by
  unfold fndF
  split
  · exact nd
  · rename_i r _
    split
    · exact nd
    · rename_i hno
      rw [List.nodup_append]
      refine ⟨nd, List.nodup_cons.mpr ⟨by simp, List.nodup_nil⟩, fun a ha b hb e => ?_⟩
      rw [List.mem_singleton.mp hb] at e
      exact hno (e ▸ ha)
theorem fnd_spec {p h : Nat} {os : List Od} (qs : List (Nat × Nat)) : ∀ acc : List (List (Nat × Nat)), acc.Nodup → (qs.foldl (fndF p h os) acc).Nodup ∧ ∀ l, l ∈ qs.foldl (fndF p h os) acc ↔ l ∈ acc ∨ ∃ q ∈ qs, ∃ r, rawOf p h os q = some r ∧ canon p h os r = l := by
  induction qs with
  | nil => exact fun acc nd => ⟨nd, fun l => by simp⟩
  | cons q qs ih =>
    intro acc nd
    obtain ⟨h1, h2⟩ := ih (fndF p h os acc q) (fndF_nd nd)
    refine ⟨h1, fun l => ?_⟩
    rw [List.foldl_cons, h2, fndF_mem]
    constructor
    · rintro ((a | a) | ⟨q', hq', a⟩)
      · exact .inl a
      · exact .inr ⟨q, List.mem_cons_self, a⟩
      · exact .inr ⟨q', List.mem_cons_of_mem _ hq', a⟩
    · rintro (a | ⟨q', hq', a⟩)
      · exact .inl (.inl a)
      · rcases List.mem_cons.mp hq' with rfl | z
        · exact .inl (.inr a)
        · exact .inr ⟨q', z, a⟩
theorem fnd_perm {p h : Nat} {os : List Od} (ok : NetOk p h os) : (fnd p h os (lets p h)).Perm (loopsN p h os) := by
  obtain ⟨h1, h2⟩ := fnd_spec (p := p) (h := h) (os := os) (lets p h) [] List.nodup_nil
  refine (List.perm_ext_iff_of_nodup h1 (loopsN_nd ok)).mpr fun l => ?_
  rw [h2]
  constructor
  · rintro (a | ⟨q, hq, r, e, rfl⟩)
    · cases a
    · obtain ⟨c, hx, _⟩ := raw_cycF ok (mem_lets.mp hq).1 e
      obtain ⟨a1, a2, a3, _⟩ := canon_spec ok c hx
      exact (mem_loopsN ok).mpr ⟨a1, a2, fun x hx' => hx x ((a3 x).mp hx')⟩
  · intro hl
    obtain ⟨c, hm', hx⟩ := (mem_loopsN ok).mp hl
    obtain ⟨q, hq, e⟩ := List.mem_filterMap.mp hl
    obtain ⟨x, xs, rfl⟩ := c.cons
    exact .inr ⟨q, hq, _, lp_raw (goodL_some e).1, canon_eq ok c hx c hm' List.mem_cons_self List.mem_cons_self⟩
/-- loops that share a stop are one -/
theorem loopsN_share {p h : Nat} {os : List Od} (ok : NetOk p h os) {l l' : List (Nat × Nat)} {x : Nat × Nat} (hl : l ∈ loopsN p h os) (hl' : l' ∈ loopsN p h os) (hx : x ∈ l) (hx' : x ∈ l') : l = l' := by
  obtain ⟨c, m1, _⟩ := (mem_loopsN ok).mp hl
  obtain ⟨c', m2, _⟩ := (mem_loopsN ok).mp hl'
  exact c.uniq c' m1 m2 hx hx'
abbrev s_letters : Stmt := top 22
abbrev N_letters : List Str := ["net", "house", "day"]
abbrev P_letters : List Str := ["net"]
theorem sc_letters : FnScope N_letters P_letters (defScope s_letters) := ⟨rfl, rfl, rfl, by decide +kernel, rfl, by decide +kernel, by decide +kernel⟩
/-! ### all letters of a period; stops by the days of the period -/
def spLets (C : Addr) : Sp := fun vs H Q _ => ∃ (x t : Addr) (p h : Nat) (os : List Od) (F : List Addr), vs = [.ref x] ∧ NetAt C H x p h os t F ∧ NetOk p h os ∧
  ∀ H' r ws, Same H H' → H r = none → H' r = some (.lst ws) → Paired (StopAt H') ws (lets p h) → Q (.ref r) H'
theorem lets_step {p h i j : Nat} (hi : i < h) (hj : j < p) : ((List.range i).flatMap fun a => (List.range p).map fun d => (a, d)) ++ ((List.range (j + 1)).map fun d => (i, d)) = (((List.range i).flatMap fun a => (List.range p).map fun d => (a, d)) ++ ((List.range j).map fun d => (i, d))) ++ [(i, j)] := by
  rw [List.range_succ, List.map_append, List.append_assoc]
  rfl
theorem lets_row {p i : Nat} : ((List.range (i + 1)).flatMap fun a => (List.range p).map fun d => (a, d)) = ((List.range i).flatMap fun a => (List.range p).map fun d => (a, d)) ++ ((List.range p).map fun d => (i, d)) := by
  rw [List.range_succ, List.flatMap_append]
  simp
theorem rows_len {p i j : Nat} : (((List.range i).flatMap fun a => (List.range p).map fun d => (a, d)) ++ ((List.range j).map fun d => (i, d))).length = i * p + j := by
  rw [List.length_append, List.length_map, List.length_range]
  have := lets_len (p := p) (h := i)
  unfold lets at this
  rw [this]
section
variable {P : Program} {w : World} {K : PySem.W.Frag} {mg : Str → Option Value} {base : Heap}
theorem ok_letters {f C : Addr} {fd : FuncData} (F : Fun K "letters" "letters" s_letters f fd) (B : Blt mg) (T : NetT K C) : FnOk P w K mg base CX0 2 f fd P_letters (spLets C) := by
  refine F.ok sc_letters (fun vs H Q E h => ?_) (fun cdv A outer s H vs Q E hr h => ?_)
  · obtain ⟨x, t, p, h, os, F, rfl, _⟩ := h
    rfl
  · obtain ⟨x, t, p, h, os, F, rfl, Nt, nok, q⟩ := h
    refine ⟨_, pss_one (ps_ret (pe_lc2 (own := [("house", 1), ("day", 2)]) (vs1 := [2]) (g := gName 1) (g1 := gName 2) (tt := tYes) (tt1 := tYes) (wi1 := iRng1 (tCons (tFld K (tVar 0) "period") tNil)) (te := tTup (tCons (tVar 1) (tCons (tVar 2) tNil))) (by rfl) sc_letters.nd (pi_range1 rfl B.range (pa_cons (pe_fld (pv 0) rfl) pa_nil))
          (blkOk_by (N := N_letters) (sc := defScope s_letters) (by decide +kernel)) (by intro i hi; simp at hi; simp [hi]) (fun _ _ _ _ _ => pg_name (i := 1) sc_letters.nd rfl (.inl rfl)) (fun _ _ _ _ _ => pts_nil)
          (fun _ _ _ _ _ => pi_range1 rfl B.range (pa_cons (pe_fld (pv 0) rfl) pa_nil)) (fun _ _ _ _ _ => pg_name (i := 2) sc_letters.nd rfl (.inl rfl)) (fun _ _ _ _ _ => pts_nil) (fun _ _ _ _ _ => pe_tup (pa_cons (pv 1) (pa_cons (pv 2) pa_nil))))), ?_⟩
    have p30 := nok.p30; have h10 := nok.h10
    obtain ⟨dx, fl, as, _, hx, _⟩ := id Nt
    have big : h * p ≤ 300 := Nat.mul_le_mul h10 p30
    refine ⟨_, rfl, x, C, dx, _, _, rfl, hx, T.cl, T.nH, nf_ho, (h : Int), rfl, by omega, by omega, fun D nD => ?_⟩
    have nDF := Nt.new nD
    refine lc2_rng (lo := 0) (n := (h : Int).toNat) (fun i H' => ∃ ws, NetAt C H' x p h os t F ∧ Same H H' ∧ H' D = some (.lst ws) ∧ Paired (StopAt H') ws ((List.range i).flatMap fun a => (List.range p).map fun d => (a, d))) ⟨[], Nt.same (same_upd nD), same_upd nD, upd_same, .nil⟩ ?_ ?_
    · rintro i H1 hi ⟨ws, N1, s1, hD, hw⟩
      have hi2 : i < h := by omega
      obtain ⟨dx1, _, _, _, hx1, _⟩ := id N1
      refine ⟨rfl, _, rfl, x, C, dx1, _, _, rfl, hx1, T.cl, T.nP, nf_pe, (p : Int), rfl, by omega, by omega, ?_⟩
      refine in_rng (lo := 0) (n := (p : Int).toNat) (fun j H' => ∃ ws, NetAt C H' x p h os t F ∧ Same H H' ∧ H' D = some (.lst ws) ∧ Paired (StopAt H') ws (((List.range i).flatMap fun a => (List.range p).map fun d => (a, d)) ++ ((List.range j).map fun d => (i, d)))) ⟨ws, N1, s1, hD, by rw [List.range_zero, List.map_nil, List.append_nil]; exact hw⟩ ?_ ?_
      · rintro j H2 hj ⟨ws, N2, s2, hD2, hw2⟩
        have hj2 : j < p := by omega
        refine ⟨rfl, _, rfl, _, rfl, (by show 2 ≤ sizeLine; decide), fun u nu => ?_⟩
        have s3 := same_upd (o := HO.tup [.int (0 + (i : Int)), .int (0 + (j : Int))]) nu
        have hD3 := s3 _ _ hD2
        have nuD : u ≠ D := (ne_of_none hD2 nu).symm
        refine ⟨ws, hD3, ?_, ?_⟩
        · rw [hw2.length, rows_len]
          have : i * p + p ≤ h * p := by
            rw [← Nat.succ_mul]
            exact Nat.mul_le_mul_right _ hi2
          exact small1000 (by omega)
        · have k := TupKeep.lst (o := HO.lst (ws ++ [.ref u])) hD3
          refine ⟨ws ++ [.ref u], (N2.same s3).but (d := D) .upd k nDF, fun b o e => ?_, upd_same, ?_⟩
          · rw [upd_ne (ne_of_none e nD)]
            exact s3 _ _ (s2 _ _ e)
          · rw [lets_step hi2 hj2]
            refine Paired.snoc (StopsAt.keep (tk_of s3 |>.trans k) hw2) ⟨u, rfl, ?_⟩
            rw [upd_ne nuD, upd_same, Int.zero_add, Int.zero_add]
      · rintro H2 ⟨ws, N2, s2, hD2, hw2⟩
        refine ⟨ws, N2, s2, hD2, ?_⟩
        rw [lets_row]
        exact hw2
    · rintro H1 ⟨ws, N1, s1, hD, hw⟩
      exact q H1 D ws s1 nD hD hw
end
/-! ### pairs as data: their order and their least -/
section
open PySem.W (alike alikeAll dataLt minD AlikeAll)
theorem plD_alike (s t : Nat × Nat) : alike (plD s) (plD t) = true := by
  simp [plD, alike, alikeAll]
theorem plDs_alike (l : List (Nat × Nat)) : AlikeAll (l.map plD) := by
  refine ⟨fun x hx y hy => ?_, fun x hx => ?_⟩
  · obtain ⟨s, _, rfl⟩ := List.mem_map.mp hx
    obtain ⟨t, _, rfl⟩ := List.mem_map.mp hy
    exact plD_alike s t
  · obtain ⟨s, _, rfl⟩ := List.mem_map.mp hx
    intro e
    cases e
theorem int_eqv (a b : Int) : PyData.eqv (.int a) (.int b) = decide (a = b) := by
  by_cases h : a = b <;> simp [PyData.eqv, h]
theorem dataLt_pl (s t : Nat × Nat) : dataLt (plD s) (plD t) = ltS s t := by
  unfold plD ltS
  rw [PySem.W.dataLt_tuple]
  by_cases e1 : s.1 = t.1
  · rw [if_pos e1, PySem.W.dataLt_all_yes (by simp [alike]) (by rw [int_eqv, e1]; exact decide_eq_true rfl)]
    by_cases e2 : s.2 = t.2
    · rw [PySem.W.dataLt_all_yes (by simp [alike]) (by rw [int_eqv, e2]; exact decide_eq_true rfl), e2, decide_eq_false (Nat.lt_irrefl _)]
      simp [PySem.W.keyToksAll, PyProof.Rows.lexLt]
      rfl
    · rw [PySem.W.dataLt_all_no (by simp [alike]) (by rw [int_eqv]; exact decide_eq_false (by omega)), PySem.W.dataLt_int]
      by_cases c : s.2 < t.2
      · rw [decide_eq_true c, decide_eq_true (by omega)]
      · rw [decide_eq_false c, decide_eq_false (by omega)]
  · rw [if_neg e1, PySem.W.dataLt_all_no (by simp [alike]) (by rw [int_eqv]; exact decide_eq_false (by omega)), PySem.W.dataLt_int]
    by_cases c : s.1 < t.1
    · rw [decide_eq_true c, decide_eq_true (by omega)]
    · rw [decide_eq_false c, decide_eq_false (by omega)]
theorem minD_pl : ∀ (xs : List (Nat × Nat)) (x : Nat × Nat), minD (plD x) (xs.map plD) = plD (minS x xs)
  | [], x => rfl
  | y :: ys, x => by
    show minD (if dataLt (plD y) (plD x) = true then plD y else plD x) (ys.map plD) = plD (minS (if ltS y x then y else x) ys)
    rw [dataLt_pl]
    by_cases c : ltS y x = true
    · rw [if_pos c, if_pos c]
      exact minD_pl ys y
    · rw [if_neg c, if_neg c]
      exact minD_pl ys x
theorem plD_inj {s t : Nat × Nat} (e : plD s = plD t) : s = t := by
  have h := plD_eqv s t
  rw [← e] at h
  rw [PySem.SeqAt.eqv_refl _ (PySem.SeqAt.canLay_of_shaped (plD_shaped s))] at h
  exact of_decide_eq_true h.symm
/-- min of a list of stops -/
theorem min_depth (x : Nat × Nat) (xs : List (Nat × Nat)) : PyData.depthAll (plD x :: xs.map plD) ≤ 60 := by
  have := plDs_depth (x :: xs)
  rw [List.map_cons] at this
  omega
theorem min_at {H : Hp} {ws : List V} {x : Nat × Nat} {xs : List (Nat × Nat)} {i : Nat} {v : V} (hw : Paired (StopAt H) ws (x :: xs)) (hi : ws[i]? = some v) (he : (plD x :: xs.map plD)[i]? = some (minD (plD x) (xs.map plD))) : StopAt H v (minS x xs) := by
  have hil : i < (x :: xs).length := by rw [← hw.length]; exact (List.getElem?_eq_some_iff.mp hi).1
  obtain ⟨v', hv', hs⟩ := Paired.get? (i := i) hw (List.getElem?_eq_getElem hil)
  obtain rfl : v' = v := Option.some.inj (hv'.symm.trans hi)
  have e2 : ((x :: xs).map plD)[i]? = some (plD (x :: xs)[i]) := by rw [List.getElem?_map, List.getElem?_eq_getElem hil]; rfl
  rw [List.map_cons, he, minD_pl] at e2
  rw [plD_inj (Option.some.inj e2)]
  exact hs
end
/-! ### where letters are delivered: plain mathematics -/
def dst (p h : Nat) (os : List Od) (st : Nat × Nat) : Option (Nat × Nat) := destOf (folR p h os st)
theorem stp_none_add {p : Nat} {os : List Od} {i : Nat} {st : Nat × Nat} (e : stp p os i st = none) (k : Nat) : stp p os (i + k) st = none := by
  rw [stp_add, e]
  rfl
theorem stp_succ_none {p : Nat} {os : List Od} {j : Nat} {st c : Nat × Nat} (h1 : stp p os j st = some c) (h2 : hop p os c = none) : stp p os (j + 1) st = none := by
  show (stp p os j st).bind (hop p os) = none
  rw [h1]
  exact h2
theorem dst_iff {p h : Nat} {os : List Od} {st c : Nat × Nat} (ok : NetOk p h os) (hh : st.1 < h) : dst p h os st = some c ↔ ∃ j, stp p os j st = some c ∧ hop p os c = none := by
  unfold dst
  rcases folR_cases ok hh with ⟨l, e, hne, hl, _⟩ | ⟨m, s, b, t, k, e, hl, hb, hs, hk, _⟩
  · rw [e]
    show l.getLast? = some c ↔ _
    have hlen : 0 < l.length := List.length_pos_iff.mpr hne
    have hend : stp p os l.length st = none := by
      rw [← hl]
      exact List.getElem?_eq_none_iff.mpr (Nat.le_refl _)
    have hlast : l.getLast? = stp p os (l.length - 1) st := by rw [← hl, List.getLast?_eq_getElem?]
    rw [hlast]
    constructor
    · intro h1
      refine ⟨_, h1, ?_⟩
      have e2 : (stp p os (l.length - 1) st).bind (hop p os) = none := by
        have e1 : stp p os (l.length - 1 + 1) st = none := by rw [Nat.sub_add_cancel hlen]; exact hend
        exact e1
      rw [h1] at e2
      exact e2
    · rintro ⟨j, h1, h2⟩
      have e3 := stp_succ_none h1 h2
      have hj : j < l.length := by
        rcases Nat.lt_or_ge j l.length with z | z
        · exact z
        · have := stp_none_add hend (j - l.length)
          rw [show l.length + (j - l.length) = j by omega, h1] at this
          cases this
      have hj2 : ¬ j + 1 < l.length := fun z => by
        have := hl (j + 1)
        rw [e3, List.getElem?_eq_getElem z] at this
        cases this
      rw [show l.length - 1 = j by omega]
      exact h1
  · rw [e]
    show (none : Option (Nat × Nat)) = some c ↔ _
    constructor
    · intro z
      cases z
    · rintro ⟨j, h1, h2⟩
      exfalso
      have hbl : b < m.length := (List.getElem?_eq_some_iff.mp hb).1
      have g1 : stp p os b st = some t := by
        rw [← hl b (Nat.le_of_lt hbl), List.getElem?_append_left hbl]
        exact hb
      have g2 : stp p os (b + (m.length - b)) st = some (shf (p * k) t) := by
        rw [show b + (m.length - b) = m.length by omega, ← hl _ (Nat.le_refl _), List.getElem?_append_right (Nat.le_refl _), Nat.sub_self, hs]
        rfl
      have hr := stp_round (N := m.length - b) (k0 := k) rfl g1 g2 (j + 1) 0
      have n1 : 1 ≤ m.length - b := by omega
      have n2 : 1 * (j + 1) ≤ (m.length - b) * (j + 1) := Nat.mul_le_mul_right _ n1
      have e3 := stp_none_add (stp_succ_none h1 h2) (b + 0 + (m.length - b) * (j + 1) - (j + 1))
      rw [show j + 1 + (b + 0 + (m.length - b) * (j + 1) - (j + 1)) = b + 0 + (m.length - b) * (j + 1) by omega, hr, show stp p os (b + 0) st = some t from g1] at e3
      cases e3
theorem dst_end {p h : Nat} {os : List Od} {st : Nat × Nat} (ok : NetOk p h os) (hh : st.1 < h) (e : hop p os st = none) : dst p h os st = some st := (dst_iff ok hh).mpr ⟨0, rfl, e⟩
theorem dst_stp {p h : Nat} {os : List Od} {st s : Nat × Nat} {i : Nat} (ok : NetOk p h os) (hh : st.1 < h) (e : stp p os i st = some s) : dst p h os st = dst p h os s := by
  have hs := pst_house ok hh i e
  apply Option.ext
  intro c
  rw [dst_iff ok hh, dst_iff ok hs]
  constructor
  · rintro ⟨j, h1, h2⟩
    by_cases z : i ≤ j
    · refine ⟨j - i, ?_, h2⟩
      rw [show j = i + (j - i) by omega, stp_add, e] at h1
      exact h1
    · have e3 := stp_none_add (stp_succ_none h1 h2) (i - (j + 1))
      rw [show j + 1 + (i - (j + 1)) = i by omega, e] at e3
      cases e3
  · rintro ⟨j, h1, h2⟩
    refine ⟨i + j, ?_, h2⟩
    rw [stp_add, e]
    exact h1
theorem hop_shf_none {p : Nat} {os : List Od} {k : Nat} {s : Nat × Nat} : hop p os (shf (p * k) s) = none ↔ hop p os s = none := by
  rw [hop_shf, Option.map_eq_none_iff]
theorem dst_shf {p h : Nat} {os : List Od} {st : Nat × Nat} {k : Nat} (ok : NetOk p h os) (hh : st.1 < h) : dst p h os (shf (p * k) st) = (dst p h os st).map (shf (p * k)) := by
  apply Option.ext
  intro c
  rw [dst_iff ok (show (shf (p * k) st).1 < h from hh), Option.map_eq_some_iff]
  constructor
  · rintro ⟨j, h1, h2⟩
    rw [stp_shf] at h1
    obtain ⟨c', h3, rfl⟩ := Option.map_eq_some_iff.mp h1
    exact ⟨c', (dst_iff ok hh).mpr ⟨j, h3, hop_shf_none.mp h2⟩, rfl⟩
  · rintro ⟨c', h1, rfl⟩
    obtain ⟨j, h3, h4⟩ := (dst_iff ok hh).mp h1
    exact ⟨j, by rw [stp_shf, h3]; rfl, hop_shf_none.mpr h4⟩
theorem dst_cycle {p h : Nat} {os : List Od} {st : Nat × Nat} {i k : Nat} (ok : NetOk p h os) (hh : st.1 < h) (e : stp p os i st = some (shf (p * k) st)) (hk : 0 < p * k) : dst p h os st = none := by
  have h1 := dst_stp ok hh e
  rw [dst_shf ok hh] at h1
  cases q : dst p h os st with
  | none => rfl
  | some c =>
    rw [q] at h1
    have h2 : c.2 = c.2 + p * k := congrArg Prod.snd (Option.some.inj h1)
    omega
theorem dst_le {p h : Nat} {os : List Od} {st c : Nat × Nat} (ok : NetOk p h os) (hh : st.1 < h) (e : dst p h os st = some c) : st.2 ≤ c.2 := by
  obtain ⟨j, h1, _⟩ := (dst_iff ok hh).mp e
  cases j with
  | zero =>
    cases h1
    exact Nat.le_refl _
  | succ j => exact Nat.le_of_lt (stp_more (i := 0) (k := j) ok rfl (by rw [Nat.zero_add]; exact h1))
theorem dst_house {p h : Nat} {os : List Od} {st c : Nat × Nat} (ok : NetOk p h os) (hh : st.1 < h) (e : dst p h os st = some c) : c.1 < h := by
  obtain ⟨j, h1, _⟩ := (dst_iff ok hh).mp e
  exact pst_house ok hh j h1
theorem dst_plc {p h : Nat} {os : List Od} {st : Nat × Nat} (ok : NetOk p h os) (hh : st.1 < h) : dst p h os st = (dst p h os (plc p st)).map (shf (p * (st.2 / p))) := by
  rw [← dst_shf ok (show (plc p st).1 < h from hh), ← shf_plc]
/-- the goal of a letter, and how many days it takes -/
def wayOf (p h : Nat) (os : List Od) (s : Nat × Nat) : Option (Nat × Nat) := (dst p h os s).map fun g => (g.1, g.2 - s.2)
theorem wayOf_dst {p h : Nat} {os : List Od} {s : Nat × Nat} (ok : NetOk p h os) (hh : s.1 < h) : dst p h os s = (wayOf p h os s).map fun g => (g.1, s.2 + g.2) := by
  unfold wayOf
  rw [Option.map_map]
  cases q : dst p h os s with
  | none => rfl
  | some c =>
    have := dst_le ok hh q
    show some c = some (c.1, s.2 + (c.2 - s.2))
    rw [show s.2 + (c.2 - s.2) = c.2 by omega]
theorem wayOf_plc {p h : Nat} {os : List Od} {s : Nat × Nat} (ok : NetOk p h os) (hh : s.1 < h) : wayOf p h os (plc p s) = wayOf p h os s := by
  unfold wayOf
  rw [dst_plc ok hh, Option.map_map]
  cases q : dst p h os (plc p s) with
  | none => rfl
  | some c =>
    show some (c.1, c.2 - s.2 % p) = some (c.1, c.2 + p * (s.2 / p) - s.2)
    have := Nat.div_add_mod s.2 p
    rw [show c.2 + p * (s.2 / p) - s.2 = c.2 - s.2 % p by omega]
theorem dst_way {p h : Nat} {os : List Od} {s : Nat × Nat} (ok : NetOk p h os) (hh : s.1 < h) : dst p h os s = (wayOf p h os (plc p s)).map fun g => (g.1, s.2 + g.2) := by
  rw [wayOf_plc ok hh]
  exact wayOf_dst ok hh
/-- the table of ways: keys and values -/
def wkv (p : Nat) (ks : List (Nat × Nat)) (f : Nat × Nat → V) : List (List Key × V) := ks.map fun s => (keyOf p s, f s)
def setF (f : Nat × Nat → V) (q : Nat × Nat) (v : V) : Nat × Nat → V := fun s => if s = q then v else f s
theorem key_plc {p : Nat} {s : Nat × Nat} : keyOf p (plc p s) = keyOf p s := keyOf_eq.mpr (plc_plc s)
theorem key_at {p : Nat} {q s : Nat × Nat} (hq : plc p q = q) : keyOf p q = keyOf p s ↔ q = plc p s := by
  rw [keyOf_eq, hq]
theorem wkv_val {p : Nat} {f : Nat × Nat → V} {s : Nat × Nat} : ∀ {ks : List (Nat × Nat)}, (∀ q ∈ ks, plc p q = q) → valV (wkv p ks f) (keyOf p s) = if plc p s ∈ ks then some (f (plc p s)) else none
  | [], _ => rfl
  | q :: ks, h => by
    have hq := h q List.mem_cons_self
    have ih := wkv_val (p := p) (f := f) (s := s) fun r hr => h r (List.mem_cons_of_mem _ hr)
    by_cases c : q = plc p s
    · rw [if_pos (by rw [c]; exact List.mem_cons_self)]
      show valV ((keyOf p q, f q) :: wkv p ks f) (keyOf p s) = _
      rw [valV_pos ((key_at hq).mpr c), c]
    · show valV ((keyOf p q, f q) :: wkv p ks f) (keyOf p s) = _
      rw [valV_neg fun z => c ((key_at hq).mp z), ih]
      by_cases m : plc p s ∈ ks
      · rw [if_pos m, if_pos (List.mem_cons_of_mem _ m)]
      · rw [if_neg m, if_neg fun z => (List.mem_cons.mp z).elim (fun e => c e.symm) m]
theorem wkv_ext {p : Nat} {f g : Nat × Nat → V} {ks : List (Nat × Nat)} (h : ∀ q ∈ ks, f q = g q) : wkv p ks f = wkv p ks g := by
  unfold wkv
  exact List.map_congr_left fun q hq => by rw [h q hq]
theorem wkv_new {p : Nat} {f : Nat × Nat → V} {s : Nat × Nat} {v : V} {ks : List (Nat × Nat)} (h : ∀ q ∈ ks, plc p q = q) (hn : plc p s ∉ ks) : putK (wkv p ks f) (keyOf p s) v = wkv p (ks ++ [plc p s]) (setF f (plc p s) v) := by
  rw [Cp.putK_new (by rw [wkv_val h, if_neg hn])]
  show _ = wkv p (ks ++ [plc p s]) _
  unfold wkv
  rw [List.map_append]
  congr 1
  · exact List.map_congr_left fun q hq => by
      show (keyOf p q, f q) = (keyOf p q, if q = plc p s then v else f q)
      rw [if_neg fun e : q = plc p s => hn (e ▸ hq)]
  · show [(keyOf p s, v)] = [(keyOf p (plc p s), setF f (plc p s) v (plc p s))]
    unfold setF
    rw [if_pos rfl, key_plc]
theorem wkv_old {p : Nat} {f : Nat × Nat → V} {s : Nat × Nat} {v : V} {ks : List (Nat × Nat)} (h : ∀ q ∈ ks, plc p q = q) (hn : plc p s ∈ ks) : putK (wkv p ks f) (keyOf p s) v = wkv p ks (setF f (plc p s) v) := by
  unfold putK
  have e : ((wkv p ks f).any fun kv => decide (kv.1 = keyOf p s)) = true := by
    rw [valV_any, wkv_val h, if_pos hn]
    rfl
  rw [if_pos e]
  unfold wkv
  rw [List.map_map]
  refine List.map_congr_left fun q hq => ?_
  show (if keyOf p q = keyOf p s then (keyOf p q, v) else (keyOf p q, f q)) = (keyOf p q, setF f (plc p s) v q)
  unfold setF
  by_cases c : q = plc p s
  · rw [if_pos ((key_at (h q hq)).mpr c), if_pos c]
  · rw [if_neg fun z => c ((key_at (h q hq)).mp z), if_neg c]
abbrev s_add_ways : Stmt := top 24
abbrev N_add_ways : List Str := ["net", "house", "day", "ways", "trail", "stop", "goal", "arrival", "known", "source", "start"]
abbrev P_add_ways : List Str := ["net", "house", "day", "ways"]
theorem sc_add_ways : FnScope N_add_ways P_add_ways (defScope s_add_ways) := ⟨rfl, rfl, rfl, by decide +kernel, rfl, by decide +kernel, by decide +kernel⟩
abbrev s_find_ways : Stmt := top 23
abbrev N_find_ways : List Str := ["net", "ways", "house", "day"]
abbrev P_find_ways : List Str := ["net"]
theorem sc_find_ways : FnScope N_find_ways P_find_ways (defScope s_find_ways) := ⟨rfl, rfl, rfl, by decide +kernel, rfl, by decide +kernel, by decide +kernel⟩
/-! ### the table of ways -/
structure WaysAt (p h : Nat) (os : List Od) (H : Hp) (d : Addr) (ks : List (Nat × Nat)) (f : Nat × Nat → V) : Prop where
  tab : H d = some (.dT (wkv p ks f))
  nd : ks.Nodup
  ok : ∀ q ∈ ks, q.1 < h ∧ q.2 < p
  ways : ∀ q ∈ ks, OptStop H (f q) (wayOf p h os q)
theorem plc_lt {p : Nat} {q : Nat × Nat} (h : q.2 < p) : plc p q = q := Prod.ext rfl (Nat.mod_eq_of_lt h)
theorem WaysAt.same {p h : Nat} {os : List Od} {H H' : Hp} {d : Addr} {ks : List (Nat × Nat)} {f : Nat × Nat → V} (W : WaysAt p h os H d ks f) (s : Same H H') : WaysAt p h os H' d ks f :=
  ⟨s _ _ W.tab, W.nd, W.ok, fun q hq => (W.ways q hq).keep (tk_of s)⟩
theorem But.tkd {d : Addr} {H H' : Hp} {kvs : List (List Key × V)} (b : But d H H') (hd : H d = some (.dT kvs)) : TupKeep H H' := fun c xs e => b c _ (ne_of e hd (by intro z; cases z)) e
def spAddWays (C : Addr) : Sp := fun vs H Q _ => ∃ (x t d : Addr) (p h hs dy : Nat) (os : List Od) (F : List Addr) (ks : List (Nat × Nat)) (f : Nat × Nat → V), vs = [.ref x, .int hs, .int dy, .ref d] ∧ NetAt C H x p h os t F ∧ NetOk p h os ∧ hs < h ∧ dy < p ∧ d ∉ F ∧
  WaysAt p h os H d ks f ∧ ∀ H' ks' f', But d H H' → WaysAt p h os H' d ks' f' → (∀ q ∈ ks, q ∈ ks') → (hs, dy) ∈ ks' → Q .non H'
/-- the state amid the trail: its stops are the first of the letter's -/
structure TrailAt (p h : Nat) (os : List Od) (H H' : Hp) (d tl : Addr) (st : Nat × Nat) (ks l : List (Nat × Nat)) (ts : List V) (f : Nat × Nat → V) : Prop where
  but : But d H H'
  stp : ∀ j, j < l.length → l[j]? = stp p os j st
  trail : H' tl = some (.lst ts)
  stops : Paired (StopAt H') ts l
  tab : H' d = some (.dT (wkv p (ks ++ l.map (plc p)) f))
  nd : (ks ++ l.map (plc p)).Nodup
  ok : ∀ q ∈ ks, q.1 < h ∧ q.2 < p
  ways : ∀ q ∈ ks, OptStop H' (f q) (wayOf p h os q)
  non : ∀ q ∈ l.map (plc p), f q = .non
section
variable {p h : Nat} {os : List Od} {H H' H2 : Hp} {d tl : Addr} {st : Nat × Nat} {ks l : List (Nat × Nat)} {ts : List V} {f : Nat × Nat → V}
theorem TrailAt.same (T : TrailAt p h os H H' d tl st ks l ts f) (s : Same H' H2) : TrailAt p h os H H2 d tl st ks l ts f :=
  { T with but := T.but.trans (.of s), trail := s _ _ T.trail, stops := StopsAt.keep (tk_of s) T.stops, tab := s _ _ T.tab, ways := fun q hq => (T.ways q hq).keep (tk_of s) }
theorem TrailAt.house (T : TrailAt p h os H H' d tl st ks l ts f) (nok : NetOk p h os) (hh : st.1 < h) : ∀ s ∈ l, s.1 < h := fun s hs => by
  obtain ⟨j, hj⟩ := List.getElem?_of_mem hs
  have lt := (List.getElem?_eq_some_iff.mp hj).1
  exact pst_house nok hh j ((T.stp j lt).symm.trans hj)
theorem TrailAt.len (T : TrailAt p h os H H' d tl st ks l ts f) (nok : NetOk p h os) (hh : st.1 < h) : l.length ≤ h * p :=
  places_bound nok.p1 (T.house nok hh) (List.nodup_append.mp T.nd).2.1
theorem TrailAt.plcs (T : TrailAt p h os H H' d tl st ks l ts f) : ∀ q ∈ ks ++ l.map (plc p), plc p q = q := fun q hq => by
  rcases List.mem_append.mp hq with z | z
  · exact plc_lt (T.ok q z).2
  · obtain ⟨s, _, rfl⟩ := List.mem_map.mp z
    exact plc_plc s
theorem TrailAt.oks (T : TrailAt p h os H H' d tl st ks l ts f) (nok : NetOk p h os) (hh : st.1 < h) : ∀ q ∈ ks ++ l.map (plc p), q.1 < h ∧ q.2 < p := fun q hq => by
  rcases List.mem_append.mp hq with z | z
  · exact T.ok q z
  · obtain ⟨s, hs, rfl⟩ := List.mem_map.mp z
    exact ⟨T.house nok hh s hs, Nat.mod_lt _ nok.p1⟩
theorem TrailAt.keys (T : TrailAt p h os H H' d tl st ks l ts f) (nok : NetOk p h os) (hh : st.1 < h) : (ks ++ l.map (plc p)).length ≤ h * p := by
  have e : (ks ++ l.map (plc p)).map (plc p) = ks ++ l.map (plc p) := by
    rw [List.map_congr_left (g := id) fun q hq => T.plcs q hq, List.map_id]
  exact places_bound nok.p1 (fun s hs => (T.oks nok hh s hs).1) (by rw [e]; exact T.nd)
/-- a stop of the trail is where the letter comes to: so is its end -/
theorem TrailAt.dst (T : TrailAt p h os H H' d tl st ks l ts f) (nok : NetOk p h os) (hh : st.1 < h) {s : Nat × Nat} (hs : s ∈ l) : Cp.dst p h os st = Cp.dst p h os s := by
  obtain ⟨j, hj⟩ := List.getElem?_of_mem hs
  have lt := (List.getElem?_eq_some_iff.mp hj).1
  exact dst_stp nok hh ((T.stp j lt).symm.trans hj)
/-- all that the trail holds chases: the table is right as it is -/
theorem TrailAt.done (T : TrailAt p h os H H' d tl st ks l ts f) (nok : NetOk p h os) (hh : st.1 < h) (e : Cp.dst p h os st = none) : WaysAt p h os H' d (ks ++ l.map (plc p)) f :=
  ⟨T.tab, T.nd, T.oks nok hh, fun q hq => by
    rcases List.mem_append.mp hq with z | z
    · exact T.ways q z
    · rw [T.non q z]
      obtain ⟨s, hs, rfl⟩ := List.mem_map.mp z
      rw [wayOf_plc nok (T.house nok hh s hs)]
      unfold wayOf
      rw [← T.dst nok hh hs, e]
      exact rfl⟩
/-- one stop more -/
theorem TrailAt.more (T : TrailAt p h os H H' d tl st ks l ts f) {c : Nat × Nat} {u : Addr} {xs : List V} (hc : Cp.stp p os l.length st = some c) (hn : plc p c ∉ ks ++ l.map (plc p)) (hu : H' u = some (.tup xs)) (hs : StopAt H' (.ref u) c) (nd : tl ≠ d) (n0 : H tl = none) :
    TrailAt p h os H (upd (upd H' d (.dT (wkv p (ks ++ (l ++ [c]).map (plc p)) (setF f (plc p c) .non)))) tl (.lst (ts ++ [.ref u]))) d tl st ks (l ++ [c]) (ts ++ [.ref u]) (setF f (plc p c) .non) := by
  have k1 : TupKeep H' (upd H' d (.dT (wkv p (ks ++ (l ++ [c]).map (plc p)) (setF f (plc p c) .non)))) := fun b ys e => by
    rw [upd_ne (ne_of e T.tab (by intro z; cases z))]
    exact e
  have htl : (upd H' d (.dT (wkv p (ks ++ (l ++ [c]).map (plc p)) (setF f (plc p c) .non)))) tl = some (.lst ts) := by
    rw [upd_ne nd]
    exact T.trail
  have k2 := k1.trans (TupKeep.lst (o := HO.lst (ts ++ [.ref u])) htl)
  refine ⟨fun b o nb e => ?_, fun j hj => ?_, upd_same, ?_, ?_, ?_, T.ok, fun q hq => ?_, fun q hq => ?_⟩
  · have n2 : b ≠ tl := fun z => by
      rw [z, n0] at e
      cases e
    rw [upd_ne n2, upd_ne nb]
    exact T.but b o nb e
  · rw [List.length_append, List.length_singleton] at hj
    by_cases z : j < l.length
    · rw [List.getElem?_append_left z]
      exact T.stp j z
    · obtain rfl : j = l.length := by omega
      rw [List.getElem?_append_right (Nat.le_refl _), Nat.sub_self, hc]
      rfl
  · exact Paired.snoc (StopsAt.keep k2 T.stops) (hs.keep k2)
  · rw [upd_ne nd.symm, upd_same]
  · rw [List.map_append, ← List.append_assoc, List.nodup_append]
    refine ⟨T.nd, by simp, fun a ha b hb => ?_⟩
    rw [List.map_cons, List.map_nil, List.mem_singleton] at hb
    rw [hb]
    intro e
    exact hn (e ▸ ha)
  · have e : setF f (plc p c) .non q = f q := by
      show (if q = plc p c then _ else _) = _
      rw [if_neg fun z : q = plc p c => hn (z ▸ List.mem_append_left _ hq)]
    rw [e]
    exact (T.ways q hq).keep k2
  · show (if q = plc p c then _ else _) = _
    by_cases z : q = plc p c
    · rw [if_pos z]
    · rw [if_neg z]
      rw [List.map_append] at hq
      rcases List.mem_append.mp hq with y | y
      · exact T.non q y
      · rw [List.map_cons, List.map_nil, List.mem_singleton] at y
        exact absurd y z
end
section
variable {P : Program} {w : World} {K : PySem.W.Frag} {mg : Str → Option Value} {base : Heap}
/-- ways of the trail set one by one -/
structure EndAt (p h : Nat) (os : List Od) (H H' : Hp) (d tl : Addr) (K : List (Nat × Nat)) (l : List (Nat × Nat)) (ts : List V) (j : Nat) (f : Nat × Nat → V) : Prop where
  but : But d H H'
  trail : H' tl = some (.lst ts)
  stops : Paired (StopAt H') ts l
  tab : H' d = some (.dT (wkv p K f))
  ways : ∀ q ∈ K, q ∉ (l.drop j).map (plc p) → OptStop H' (f q) (wayOf p h os q)
theorem ok_add_ways {f C fS : Addr} {fd fdS : FuncData} (F : Fun K "add_ways" "add_ways" s_add_ways f fd) (T : NetT K C) (GS : FnOk P w K mg base CX0 2 fS fdS P_Net_stop_after (spStop C)) (mS : Meth K C "stop_after" fS) (bS : Binds K fdS P_Net_stop_after []) :
    FnOk P w K mg base CX0 3 f fd P_add_ways (spAddWays C) := by
  refine F.ok sc_add_ways (fun vs H Q E h => ?_) (fun cdv A outer s H vs Q E hr h => ?_)
  · obtain ⟨x, t, d, p, h, hs, dy, os, F, ks, f, rfl, _⟩ := h
    rfl
  · obtain ⟨x, t, d, p, h, hs, dy, os, F, ks, f0, rfl, Nt, nok, hh, hdy, ndF, W0, q⟩ := h
    have hu : (A.deeper (PyProof.Rows.envOfC "add_ways" (defScope s_add_ways) s.heap.objs.size f cdv)).units + 1 < cLine := hu_of hr
    have hr1 : Room 2 _ := hr.mono (by decide)
    refine ⟨_, pss_cons (ps_set (i := 4) sc_add_ways.nd rfl (.inl rfl) (pe_lst pa_nil))
      (pss_cons (ps_set (i := 5) sc_add_ways.nd rfl (.inl rfl) (pe_tup (pa_cons (pv 1) (pa_cons (pv 2) pa_nil))))
      (C8.pss_cut (ps_while PassesOwn.never (PW.pt (pw_and (pt_cmpR op_notN (pv 5) pe_non (nomark _)) (pw_and1 (pt_cmp (pc_dnotin hu (pe_tup (pa_cons (pe_ix ix_tup (pv 5) pe_int (fun _ _ => rfl)) (pa_cons (pe_op op_modN (pe_ix ix_tup (pv 5) pe_int (fun _ _ => rfl)) (pe_fld (pv 0) rfl)) pa_nil))) (pv 3))))))
        (pss_cons (ps_dput hu (pv 3) (pe_tup (pa_cons (pe_ix ix_tup (pv 5) pe_int (fun _ _ => rfl)) (pa_cons (pe_op op_modN (pe_ix ix_tup (pv 5) pe_int (fun _ _ => rfl)) (pe_fld (pv 0) rfl)) pa_nil))) pe_non (by rfl))
        (pss_cons (ps_expr (pe_bm PySem.F.plainAttrs_list PySem.F.slot_list_append PySem.F.type_list_append mt_append (pv 4) (pa_cons (pv 5) pa_nil)))
        (pss_one (ps_set (i := 5) sc_add_ways.nd rfl (.inl rfl) (pe_meth (pv 0) T.cl mS GS hr1 bS .nil pass0 (pa_cons (pe_ix ix_tup (pv 5) pe_int (fun _ _ => rfl)) (pa_cons (pe_ix ix_tup (pv 5) pe_int (fun _ _ => rfl)) pa_nil))))))))
      (C8.pss_cut (ps_if (pt_cmpR op_isN (pv 5) pe_non (nomark _))
          (pss_one (ps_asg (pe_ix ix_list (pv 4) (pe_un un_neg pe_int) (fun _ _ => rfl)) (pg_tup (by rfl) (pgs_cons (pg_name (i := 6) sc_add_ways.nd rfl (.inl rfl)) (pgs_cons (pg_name (i := 7) sc_add_ways.nd rfl (.inl rfl)) pgs_nil)))))
          (pss_cons (ps_set (i := 8) sc_add_ways.nd rfl (.inl rfl) (pe_dget hu (pv 3) (pe_tup (pa_cons (pe_ix ix_tup (pv 5) pe_int (fun _ _ => rfl)) (pa_cons (pe_op op_modN (pe_ix ix_tup (pv 5) pe_int (fun _ _ => rfl)) (pe_fld (pv 0) rfl)) pa_nil))) (fun _ _ => rfl)))
          (pss_cons (ps_if (pt_cmpR op_isN (pv 8) pe_non (nomark _)) (pss_one ps_retN) pss_nil)
          (pss_one (ps_par (by rfl) sc_add_ways.nd (i := 6) (j := 7) rfl rfl (by decide) rfl rfl (pa_cons (pe_ix ix_tup (pv 8) pe_int (fun _ _ => rfl)) (pa_cons (pe_op op_add (pe_ix ix_tup (pv 5) pe_int (fun _ _ => rfl)) (pe_ix ix_tup (pv 8) pe_int (fun _ _ => rfl))) pa_nil)) (by rfl))))))
      (pss_one (ps_for PassesOwn.never rfl (pi_list (pv 4)) (pg_tup (by rfl) (pgs_cons (pg_name (i := 9) sc_add_ways.nd rfl (.inl rfl)) (pgs_cons (pg_name (i := 10) sc_add_ways.nd rfl (.inl rfl)) pgs_nil)))
        (pss_one (ps_dput hu (pv 3) (pe_tup (pa_cons (pv 9) (pa_cons (pe_op op_modN (pv 10) (pe_fld (pv 0) rfl)) pa_nil))) (pe_tup (pa_cons (pv 6) (pa_cons (pe_op op_sub (pv 7) (pv 10)) pa_nil))) (by rfl)))))))), ?_⟩
    have hp : 0 < p := nok.p1
    have p30 := nok.p30; have h10 := nok.h10
    have big : h * p ≤ 300 := Nat.mul_le_mul h10 p30
    refine ⟨Nat.zero_le _, fun tl ntl => ?_⟩
    refine ⟨_, rfl, _, rfl, (by show 2 ≤ sizeLine; decide), fun u0 nu0 => ?_⟩
    have s1 := same_upd (o := HO.lst []) ntl
    have s2 := same_upd (o := HO.tup [.int hs, .int dy]) nu0
    have s12 := s1.trans s2
    have ntd : tl ≠ d := (ne_of_none W0.tab ntl).symm
    have htl0 : (upd (upd H tl (.lst [])) u0 (.tup [.int hs, .int dy])) tl = some (.lst []) := s2 _ _ upd_same
    have hu0 : (upd (upd H tl (.lst [])) u0 (.tup [.int hs, .int dy])) u0 = some (.tup [.int hs, .int dy]) := upd_same
    generalize (upd (upd H tl (.lst [])) u0 (.tup [.int hs, .int dy])) = H0 at s12 htl0 hu0
    have T0 : TrailAt p h os H H0 d tl (hs, dy) ks [] [] f0 := ⟨.of s12, fun j z => absurd z (Nat.not_lt_zero _), htl0, .nil, by rw [List.map_nil, List.append_nil]; exact s12 _ _ W0.tab, by rw [List.map_nil, List.append_nil]; exact W0.nd, W0.ok, fun q hq => (W0.ways q hq).keep (tk_of s12), fun q hq => by cases hq⟩
    have netT : ∀ {H' : Hp}, But d H H' → NetAt C H' x p h os t F := fun b => Nt.but b (b.tkd W0.tab) ndF
    refine ⟨fun σ' H' => ∃ (l : List (Nat × Nat)) (ts : List V) (f : Nat × Nat → V) (v : V) (cur : Option (Nat × Nat)), σ' = [some (.ref x), some (.int hs), some (.int dy), some (.ref d), some (.ref tl), some v, none, none, none, none, none] ∧
        TrailAt p h os H H' d tl (hs, dy) ks l ts f ∧ stp p os l.length (hs, dy) = cur ∧ OptStop H' v cur ∧ (∀ c, cur = some c → plc p c ∈ ks ++ l.map (plc p)), ?_, ?_⟩
    · refine ⟨fun m σ' H' => ∃ (l : List (Nat × Nat)) (ts : List V) (f : Nat × Nat → V) (v : V) (cur : Option (Nat × Nat)), l.length + m = h * p ∧ σ' = [some (.ref x), some (.int hs), some (.int dy), some (.ref d), some (.ref tl), some v, none, none, none, none, none] ∧
        TrailAt p h os H H' d tl (hs, dy) ks l ts f ∧ stp p os l.length (hs, dy) = cur ∧ OptStop H' v cur, ⟨h * p, [], [], f0, _, some (hs, dy), by simp, rfl, T0, rfl, ⟨u0, rfl, hu0⟩⟩, ?_⟩
      rintro m σ' H1 ⟨l, ts, f, v, cur, hm, rfl, T1, hcur, hv⟩
      have N1 := netT T1.but
      obtain ⟨dx, _, _, _, hx, _⟩ := id N1
      refine ⟨_, rfl, rfl, _, rfl, ?_⟩
      cases cur with
      | none =>
        obtain rfl : v = .non := hv
        exact iteF (iteF ⟨l, ts, f, _, none, rfl, T1, hcur, rfl, fun c z => by cases z⟩)
      | some c =>
        obtain ⟨u, rfl, hu⟩ := hv
        have hc1 : c.1 < h := pst_house nok hh _ hcur
        refine iteT ⟨_, rfl, u, _, 0, _, rfl, rfl, SqT.of hu, atI_nat (j := 0) rfl, _, rfl, u, _, 1, _, rfl, rfl, SqT.of hu, atI_nat (j := 1) rfl, _, rfl, x, C, dx, _, _, rfl, hx, T.cl, T.nP, nf_pe, _, _, rfl, rfl, by omega, (by show 2 ≤ sizeLine; decide), fun pl npl => ?_⟩
        have s3 := same_upd (o := HO.tup [.int c.1, .int ((c.2 : Int).fmod (p : Int))]) npl
        have hpl : (upd H1 pl (.tup [.int c.1, .int ((c.2 : Int).fmod (p : Int))])) pl = some (.tup ((keyOf p c).map kV)) := by
          rw [upd_same, fmod_nat]
          rfl
        have T2 := T1.same s3
        have hu2 := s3 _ _ hu
        generalize (upd H1 pl (.tup [.int c.1, .int ((c.2 : Int).fmod (p : Int))])) = H2 at s3 hpl T2 hu2
        refine ⟨_, rfl, d, _, rfl, DGet.t T2.tab hpl, ?_⟩
        rw [wkv_val T2.plcs]
        by_cases hin : plc p c ∈ ks ++ l.map (plc p)
        · rw [if_pos hin]
          exact ⟨_, rfl, iteF ⟨l, ts, f, _, some c, rfl, T2, hcur, ⟨u, rfl, hu2⟩, fun c' e => by cases e; exact hin⟩⟩
        · rw [if_neg hin]
          refine ⟨_, rfl, iteT ?_⟩
          have hlen := T2.len nok hh
          have hkl := T2.keys nok hh
          have N2 := netT T2.but
          obtain ⟨dx2, _, _, _, hx2, _⟩ := id N2
          -- what the turn leaves
          refine ⟨fun σ' H' => ∃ (ts' : List V) (f' : Nat × Nat → V) (v : V), σ' = [some (.ref x), some (.int hs), some (.int dy), some (.ref d), some (.ref tl), some v, none, none, none, none, none] ∧ TrailAt p h os H H' d tl (hs, dy) ks (l ++ [c]) ts' f' ∧ OptStop H' v (hop p os c), ?_, ?_⟩
          · rintro σ' H' ⟨ts', f', v, rfl, T', hv'⟩
            have hl' := T'.len nok hh
            rw [List.length_append, List.length_singleton] at hl'
            refine ⟨m - 1, by omega, l ++ [c], ts', f', v, hop p os c, by rw [List.length_append, List.length_singleton]; omega, rfl, T', ?_, hv'⟩
            rw [List.length_append, List.length_singleton]
            show (stp p os l.length (hs, dy)).bind (hop p os) = _
            rw [hcur]
            rfl
          -- ways[..] = None
          refine ⟨_, rfl, _, rfl, u, _, 0, _, rfl, rfl, SqT.of hu2, atI_nat (j := 0) rfl, _, rfl, u, _, 1, _, rfl, rfl, SqT.of hu2, atI_nat (j := 1) rfl, _, rfl, x, C, dx2, _, _, rfl, hx2, T.cl, T.nP, nf_pe, _, _, rfl, rfl, by omega, (by show 2 ≤ sizeLine; decide), fun pm npm => ?_⟩
          have s4 := same_upd (o := HO.tup [.int c.1, .int ((c.2 : Int).fmod (p : Int))]) npm
          have hpm : (upd H2 pm (.tup [.int c.1, .int ((c.2 : Int).fmod (p : Int))])) pm = some (.tup ((keyOf p c).map kV)) := by
            rw [upd_same, fmod_nat]
            rfl
          have T3 := T2.same s4
          have hu3 := s4 _ _ hu2
          generalize (upd H2 pm (.tup [.int c.1, .int ((c.2 : Int).fmod (p : Int))])) = H3 at s4 hpm T3 hu3
          have Tm := T3.more (u := u) hcur hin hu3 ⟨u, rfl, hu3⟩ ntd ntl
          have hkn : (wkv p (ks ++ l.map (plc p)) f).length < sizeLine := by
            unfold wkv
            rw [List.length_map]
            exact small1000 (by omega)
          refine ⟨d, _, rfl, DPut.t T3.tab hpm hkn, ?_⟩
          rw [wkv_new T3.plcs hin, show (ks ++ l.map (plc p)) ++ [plc p c] = ks ++ (l ++ [c]).map (plc p) by rw [List.map_append, List.append_assoc]; rfl]
          have htl4 : (upd H3 d (.dT (wkv p (ks ++ (l ++ [c]).map (plc p)) (setF f (plc p c) .non)))) tl = some (.lst ts) := by
            rw [upd_ne ntd]
            exact T3.trail
          refine ⟨_, rfl, .inl ⟨rfl, _, SqL.of htl4⟩, _, rfl, tl, _, _, rfl, rfl, htl4, ?_, ?_⟩
          · have := T3.stops.length
            exact small1000 (by omega)
          have N4 := netT Tm.but
          obtain ⟨u', e4, hu5⟩ := (pair_last Tm.stops : StopAt _ (.ref u) c)
          obtain rfl : u = u' := by cases e4; rfl
          generalize (upd (upd H3 d (.dT (wkv p (ks ++ (l ++ [c]).map (plc p)) (setF f (plc p c) .non)))) tl (.lst (ts ++ [.ref u]))) = H4 at Tm N4 hu5
          obtain ⟨dx4, _, _, _, hx4, _⟩ := id N4
          refine ⟨_, rfl, x, dx4, _, rfl, hx4, nf_no (by decide +kernel) (by decide +kernel) (by decide +kernel) (by decide +kernel), _, rfl, u, _, 0, _, rfl, rfl, SqT.of hu5, atI_nat (j := 0) rfl, _, rfl, u, _, 1, _, rfl, rfl, SqT.of hu5, atI_nat (j := 1) rfl, ?_⟩
          refine ⟨x, t, p, h, c.1, c.2, os, F, rfl, N4, hp, hc1, fun H5 v s5 hv5 => ⟨_, _, v, rfl, Tm.same s5, ?_⟩⟩
          cases e : hop p os c with
          | none =>
            rw [show hop p os (c.1, c.2) = none from e] at hv5
            exact hv5
          | some c' =>
            rw [show hop p os (c.1, c.2) = some c' from e] at hv5
            obtain ⟨y, e1, _, e2⟩ := hv5
            exact ⟨y, e1, e2⟩
    · rintro σ' H1 ⟨l, ts, f, v, cur, rfl, T1, hcur, hv, hin⟩
      have hks : ∀ q ∈ ks, q ∈ ks ++ l.map (plc p) := fun q hq => List.mem_append_left _ hq
      have memK : (hs, dy) ∈ ks ++ l.map (plc p) := by
        have e0 : plc p (hs, dy) = (hs, dy) := plc_lt hdy
        by_cases z : l.length = 0
        · rw [z] at hcur
          have := hin (hs, dy) hcur.symm
          rw [e0] at this
          exact this
        · have h0 := T1.stp 0 (by omega)
          exact List.mem_append_right _ (List.mem_map.mpr ⟨(hs, dy), List.mem_of_getElem? (h0.trans rfl), e0⟩)
      have N1 := netT T1.but
      obtain ⟨dx, _, _, _, hx, _⟩ := id N1
      refine ⟨fun σ' H' => ∃ (ts : List V) (f : Nat × Nat → V) (x8 : Option V) (g : Nat × Nat), σ' = [some (.ref x), some (.int hs), some (.int dy), some (.ref d), some (.ref tl), some v, some (.int g.1), some (.int g.2), x8, none, none] ∧
          TrailAt p h os H H' d tl (hs, dy) ks l ts f ∧ dst p h os (hs, dy) = some g, ⟨_, rfl, rfl, _, rfl, ?_⟩, ?_⟩
      · cases cur with
        | none =>
          obtain rfl : v = .non := hv
          have hne : l ≠ [] := fun z => by
            rw [z] at hcur
            cases hcur
          obtain ⟨l', c, rfl⟩ : ∃ l' c, l = l' ++ [c] := ⟨l.dropLast, l.getLast hne, (List.dropLast_concat_getLast hne).symm⟩
          obtain ⟨ts', v', rfl, _, u, rfl, hu⟩ := pair_split T1.stops
          have hc : stp p os l'.length (hs, dy) = some c := by
            rw [← T1.stp l'.length (by rw [List.length_append, List.length_singleton]; omega), List.getElem?_append_right (Nat.le_refl _), Nat.sub_self]
            rfl
          have hg : dst p h os (hs, dy) = some c := (dst_iff nok hh).mpr ⟨_, hc, by
            rw [List.length_append, List.length_singleton] at hcur
            have e : (stp p os l'.length (hs, dy)).bind (hop p os) = none := hcur
            rw [hc] at e
            exact e⟩
          refine iteT ⟨_, rfl, 1, rfl, tl, _, -1, _, rfl, rfl, SqL.of T1.trail, atI_last _ _, ?_⟩
          exact ⟨u, _, rfl, SqT.of hu, rfl, _, _, rfl, _, _, rfl, rfl, _, f, none, c, rfl, T1, hg⟩
        | some c =>
          obtain ⟨u, rfl, hu⟩ := hv
          have hin := hin c rfl
          have hc1 : c.1 < h := pst_house nok hh _ hcur
          have hdc := dst_stp nok hh hcur
          refine iteF ⟨_, rfl, _, rfl, u, _, 0, _, rfl, rfl, SqT.of hu, atI_nat (j := 0) rfl, _, rfl, u, _, 1, _, rfl, rfl, SqT.of hu, atI_nat (j := 1) rfl, _, rfl, x, C, dx, _, _, rfl, hx, T.cl, T.nP, nf_pe, _, _, rfl, rfl, by omega, (by show 2 ≤ sizeLine; decide), fun pl npl => ?_⟩
          have s3 := same_upd (o := HO.tup [.int c.1, .int ((c.2 : Int).fmod (p : Int))]) npl
          have hpl : (upd H1 pl (.tup [.int c.1, .int ((c.2 : Int).fmod (p : Int))])) pl = some (.tup ((keyOf p c).map kV)) := by
            rw [upd_same, fmod_nat]
            rfl
          have T2 := T1.same s3
          have hu2 := s3 _ _ hu
          generalize (upd H1 pl (.tup [.int c.1, .int ((c.2 : Int).fmod (p : Int))])) = H2 at s3 hpl T2 hu2
          have hg := DGet.t T2.tab hpl
          rw [wkv_val T2.plcs, if_pos hin] at hg
          refine ⟨d, _, rfl, hg, ?_⟩
          refine ⟨_, rfl, rfl, _, rfl, ?_⟩
          -- what is known of this place
          have know : (f (plc p c) = .non ∧ dst p h os (hs, dy) = none) ∨ ∃ (z : Addr) (g : Nat × Nat), f (plc p c) = .ref z ∧ H2 z = some (.tup [.int g.1, .int g.2]) ∧ dst p h os (hs, dy) = some (g.1, c.2 + g.2) := by
            rcases List.mem_append.mp hin with z | z
            · have hw := T2.ways _ z
              have hd2 := dst_way nok hc1
              cases e : wayOf p h os (plc p c) with
              | none =>
                rw [e] at hw hd2
                exact .inl ⟨hw, hdc.trans hd2⟩
              | some g =>
                rw [e] at hw hd2
                obtain ⟨y, e1, e2⟩ := hw
                exact .inr ⟨y, g, e1, e2, hdc.trans hd2⟩
            · refine .inl ⟨T2.non _ z, ?_⟩
              obtain ⟨s, hs1, hs2⟩ := List.mem_map.mp z
              obtain ⟨j, hj⟩ := List.getElem?_of_mem hs1
              have lt := (List.getElem?_eq_some_iff.mp hj).1
              have hsj := (T2.stp j lt).symm.trans hj
              have e1 : j + (l.length - j - 1 + 1) = l.length := by omega
              have more := stp_more (b := c) nok hsj (k := l.length - j - 1) (by rw [e1]; exact hcur)
              have e2 : stp p os (l.length - j) s = some c := by
                have := hcur
                rw [show l.length = j + (l.length - j) by omega, stp_add, hsj] at this
                exact this
              have hk : c = shf (p * (c.2 / p - s.2 / p)) s := by
                have h1 : s.1 = c.1 := (Prod.mk.inj hs2).1
                have h2 : s.2 % p = c.2 % p := (Prod.mk.inj hs2).2
                refine Prod.ext h1.symm ?_
                show c.2 = s.2 + p * (c.2 / p - s.2 / p)
                have a1 := Nat.div_add_mod c.2 p
                have a2 := Nat.div_add_mod s.2 p
                have a3 : s.2 / p ≤ c.2 / p := Nat.div_le_div_right (Nat.le_of_lt more)
                rw [Nat.mul_sub]
                have a4 : p * (s.2 / p) ≤ p * (c.2 / p) := Nat.mul_le_mul_left _ a3
                omega
              have pos : 0 < p * (c.2 / p - s.2 / p) := by
                have h3 : c.2 = s.2 + p * (c.2 / p - s.2 / p) := congrArg Prod.snd hk
                omega
              rw [hk] at e2
              rw [T2.dst nok hh hs1]
              exact dst_cycle nok (pst_house nok hh j hsj) e2 pos
          rcases know with ⟨e1, e2⟩ | ⟨z, g, e1, e2, e3⟩
          · rw [e1]
            exact iteT (q H2 _ f T2.but (T2.done nok hh e2) hks memK)
          · rw [e1]
            refine iteF ⟨_, rfl, z, _, 0, _, rfl, rfl, SqT.of e2, atI_nat (j := 0) rfl, _, rfl, u, _, 1, _, rfl, rfl, SqT.of hu2, atI_nat (j := 1) rfl, _, rfl, z, _, 1, _, rfl, rfl, SqT.of e2, atI_nat (j := 1) rfl, _, _, rfl, rfl, ?_⟩
            refine ⟨_, _, rfl, _, f, some (.ref z), (g.1, c.2 + g.2), ?_, T2, e3⟩
            show _ = [some (.ref x), some (.int hs), some (.int dy), some (.ref d), some (.ref tl), some (V.ref u), some (.int g.1), some (.int ((c.2 + g.2 : Nat) : Int)), some (.ref z), none, none]
            rw [Int.natCast_add]
            rfl
      · rintro σ' H2 ⟨ts, f, x8, g, rfl, T2, hg⟩
        have hTl := T2.stops.length
        refine ⟨_, rfl, tl, rfl, ⟨_, SqL.of T2.trail⟩, ?_⟩
        refine for_list (K := K) (a := tl) (xs := ts) (fun j σ H' => (∃ x9 x10, σ = [some (.ref x), some (.int hs), some (.int dy), some (.ref d), some (.ref tl), some v, some (.int g.1), some (.int g.2), x8, x9, x10]) ∧ ∃ f, EndAt p h os H H' d tl (ks ++ l.map (plc p)) l ts j f)
          ⟨⟨_, _, rfl⟩, f, ⟨T2.but, T2.trail, T2.stops, T2.tab, fun q hq hn => ?_⟩⟩ (fun j σ H' _ ⟨_, f, E'⟩ => SqL.of E'.trail) ?_ ?_
        · rcases List.mem_append.mp hq with z | z
          · exact T2.ways q z
          · exact absurd z hn
        · rintro j v' σ H3 hj ⟨⟨x9, x10, rfl⟩, f, E3⟩
          have lt : j < l.length := by
            rw [← hTl]
            exact (List.getElem?_eq_some_iff.mp hj).1
          have ej := List.getElem?_eq_getElem lt
          obtain ⟨v'', hv'', u, e0, hu⟩ := Paired.get? (i := j) E3.stops ej
          obtain rfl : v'' = v' := Option.some.inj (hv''.symm.trans hj)
          subst e0
          have hsm : l[j] ∈ l := List.getElem_mem lt
          have hdr : l.drop j = l[j] :: l.drop (j + 1) := List.drop_eq_getElem_cons lt
          generalize l[j] = sj at ej hu hsm hdr
          have hdj := T2.dst nok hh hsm
          have hhj := T2.house nok hh sj hsm
          rw [hg] at hdj
          have hle := dst_le nok hhj hdj.symm
          obtain ⟨dx3, _, _, _, hx3, _⟩ := id (netT E3.but)
          refine ⟨u, _, rfl, SqT.of hu, rfl, _, _, rfl, _, _, rfl, rfl, ?_⟩
          refine ⟨_, rfl, _, rfl, _, rfl, _, _, rfl, rfl, (by show 2 ≤ sizeLine; decide), fun y ny => ?_⟩
          have s4 := same_upd (o := HO.tup [.int g.1, .int ((g.2 : Int) - (sj.2 : Int))]) ny
          have hy : (upd H3 y (.tup [.int g.1, .int ((g.2 : Int) - (sj.2 : Int))])) y = some (.tup [.int g.1, .int ((g.2 - sj.2 : Nat) : Int)]) := by
            rw [upd_same, show ((g.2 : Int) - (sj.2 : Int)) = ((g.2 - sj.2 : Nat) : Int) by omega]
          have hx4 := s4 _ _ hx3
          generalize (upd H3 y (.tup [.int g.1, .int ((g.2 : Int) - (sj.2 : Int))])) = H4 at s4 hy hx4
          refine ⟨_, rfl, _, rfl, _, rfl, _, rfl, x, C, dx3, _, _, rfl, hx4, T.cl, T.nP, nf_pe, _, _, rfl, rfl, by omega, (by show 2 ≤ sizeLine; decide), fun pk npk => ?_⟩
          have s5 := same_upd (o := HO.tup [.int sj.1, .int ((sj.2 : Int).fmod (p : Int))]) npk
          have hpk : (upd H4 pk (.tup [.int sj.1, .int ((sj.2 : Int).fmod (p : Int))])) pk = some (.tup ((keyOf p sj).map kV)) := by
            rw [upd_same, fmod_nat]
            rfl
          have s45 := s4.trans s5
          have hy5 := s5 _ _ hy
          generalize (upd H4 pk (.tup [.int sj.1, .int ((sj.2 : Int).fmod (p : Int))])) = H5 at s45 hpk hy5
          have htab := s45 _ _ E3.tab
          have hkl := T2.keys nok hh
          have hkn : (wkv p (ks ++ l.map (plc p)) f).length < sizeLine := by
            unfold wkv
            rw [List.length_map]
            exact small1000 (by omega)
          refine ⟨d, _, rfl, DPut.t htab hpk hkn, ?_⟩
          rw [wkv_old T2.plcs (List.mem_append_right _ (List.mem_map.mpr ⟨sj, hsm, rfl⟩))]
          have k6 : TupKeep H5 (upd H5 d (.dT (wkv p (ks ++ l.map (plc p)) (setF f (plc p sj) (.ref y))))) := fun b ys e => by
            rw [upd_ne (ne_of e htab (by intro z; cases z))]
            exact e
          have k36 := (tk_of s45).trans k6
          refine ⟨⟨_, _, rfl⟩, setF f (plc p sj) (.ref y), ⟨(E3.but.trans (.of s45)).trans .upd, ?_, StopsAt.keep k36 E3.stops, upd_same, fun q hq hn => ?_⟩⟩
          · rw [upd_ne ntd]
            exact s45 _ _ E3.trail
          · show OptStop _ (if q = plc p sj then _ else _) _
            by_cases z : q = plc p sj
            · rw [if_pos z, z, wayOf_plc nok hhj]
              unfold wayOf
              rw [← hdj]
              exact ⟨y, rfl, k6 _ _ hy5⟩
            · rw [if_neg z]
              refine (E3.ways q hq ?_).keep k36
              rw [hdr]
              intro z2
              rcases List.mem_cons.mp z2 with e | e
              · exact z e
              · exact hn e
        · rintro σ H3 ⟨_, f, E3⟩
          rw [hTl] at E3
          refine q H3 _ f E3.but ⟨E3.tab, T2.nd, T2.oks nok hh, fun q hq => E3.ways q hq ?_⟩ hks memK
          rw [List.drop_eq_nil_iff.mpr (Nat.le_refl _)]
          intro z
          cases z
end
def spFindWays (C : Addr) : Sp := fun vs H Q _ => ∃ (x t : Addr) (p h : Nat) (os : List Od) (F : List Addr), vs = [.ref x] ∧ NetAt C H x p h os t F ∧ NetOk p h os ∧
  ∀ H' d ks f, Same H H' → H d = none → WaysAt p h os H' d ks f → (∀ q, q ∈ ks ↔ q ∈ lets p h) → Q (.ref d) H'
section
variable {P : Program} {w : World} {K : PySem.W.Frag} {mg : Str → Option Value} {base : Heap}
theorem ok_find_ways {f C : Addr} {fd : FuncData} (F : Fun K "find_ways" "find_ways" s_find_ways f fd) (DL : Df P w K mg base "letters" 2 P_letters (spLets C)) (DA : Df P w K mg base "add_ways" 3 P_add_ways (spAddWays C)) :
    FnOk P w K mg base CX0 4 f fd P_find_ways (spFindWays C) := by
  obtain ⟨fL, fdL, gL, kL, bL, GL⟩ := DL
  obtain ⟨fA, fdA, gA, kA, bA, GA⟩ := DA
  refine F.ok sc_find_ways (fun vs H Q E h => ?_) (fun cdv A outer s H vs Q E hr h => ?_)
  · obtain ⟨x, t, p, h, os, F, rfl, _⟩ := h
    rfl
  · obtain ⟨x, t, p, h, os, F, rfl, Nt, nok, q⟩ := h
    refine ⟨_, pss_cons (ps_set (i := 1) sc_find_ways.nd rfl (.inl rfl) pe_dnewT)
      (pss_cons (ps_for PassesOwn.never rfl (pi_list (pe_call GL (hr.mono (by decide)) (by rfl) gL kL bL .nil pass0 (pa_cons (pv 0) pa_nil))) (pg_tup (by rfl) (pgs_cons (pg_name (i := 2) sc_find_ways.nd rfl (.inl rfl)) (pgs_cons (pg_name (i := 3) sc_find_ways.nd rfl (.inl rfl)) pgs_nil)))
        (pss_one (ps_expr (pe_call GA hr (by rfl) gA kA bA .nil pass0 (pa_cons (pv 0) (pa_cons (pv 2) (pa_cons (pv 3) (pa_cons (pv 1) pa_nil))))))))
      (pss_one (ps_ret (pv 1)))), ?_⟩
    refine fun d nd => ?_
    have s1 := same_upd (o := HO.dT []) nd
    have ndF : d ∉ F := Nt.new nd
    refine ⟨_, rfl, x, t, p, h, os, F, rfl, Nt.same s1, nok, fun H1 r ws s2 nr hr1 hws => ?_⟩
    have hlen := hws.length
    have s12 := s1.trans s2
    have hd1 : H1 d = some (.dT []) := s2 _ _ upd_same
    have nrd : r ≠ d := (ne_of_none (upd_same (H := H)) nr).symm
    have N1 := Nt.same s12
    refine ⟨r, rfl, ⟨_, SqL.of hr1⟩, ?_⟩
    refine for_list (K := K) (a := r) (xs := ws) (fun i σ H' => (∃ x2 x3, σ = [some (.ref x), some (.ref d), x2, x3]) ∧ But d H1 H' ∧ ∃ ks f, WaysAt p h os H' d ks f ∧ ∀ q ∈ (lets p h).take i, q ∈ ks)
      ⟨⟨_, _, rfl⟩, .refl, [], fun _ => .non, ⟨hd1, List.nodup_nil, (fun q hq => by cases hq), (fun q hq => by cases hq)⟩, (fun q hq => by cases hq)⟩ (fun i σ H' _ ⟨_, b', _⟩ => SqL.of (b' r _ nrd hr1)) ?_ ?_
    · rintro i v σ H2 hi ⟨⟨x2, x3, rfl⟩, b2, ks, f, W2, hk⟩
      have lt : i < (lets p h).length := by
        rw [← hlen]
        exact (List.getElem?_eq_some_iff.mp hi).1
      have ei := List.getElem?_eq_getElem lt
      obtain ⟨v', hv', u, e0, hu⟩ := Paired.get? (i := i) hws ei
      obtain rfl : v' = v := Option.some.inj (hv'.symm.trans hi)
      subst e0
      have hm := mem_lets.mp (List.getElem_mem lt)
      generalize (lets p h)[i] = st at ei hu hm
      have k2 : TupKeep H1 H2 := b2.tkd hd1
      refine ⟨u, _, rfl, SqT.of (k2 _ _ hu), rfl, _, _, rfl, _, _, rfl, rfl, ?_⟩
      refine ⟨_, rfl, _, rfl, _, rfl, _, rfl, x, t, d, p, h, st.1, st.2, os, F, ks, f, rfl, N1.but b2 k2 ndF, nok, hm.1, hm.2, ndF, W2, fun H3 ks' f' b3 W3 sub mem => ?_⟩
      refine ⟨⟨_, _, rfl⟩, b2.trans b3, ks', f', W3, fun q hq => ?_⟩
      rw [List.take_add_one, ei] at hq
      rcases List.mem_append.mp hq with z | z
      · exact sub q (hk q z)
      · rw [Option.toList_some, List.mem_singleton] at z
        rw [z]
        exact mem
    · rintro σ H2 ⟨⟨x2, x3, rfl⟩, b2, ks, f, W2, hk⟩
      refine ⟨_, rfl, q H2 d ks f (fun b o e => b2 b o (ne_of_none e nd) (s12 _ _ e)) nd W2 fun z => ⟨fun hz => mem_lets.mpr (W2.ok z hz), fun hz => hk z ?_⟩⟩
      rw [hlen, List.take_of_length_le (Nat.le_refl _)]
      exact hz
end
/-! ### comprehensions that choose from a range, or from a list of numbers -/
theorem take_filter {α : Type} {f : α → Bool} {l : List α} {i : Nat} {q : α} (e : l[i]? = some q) : (l.take (i + 1)).filter f = (l.take i).filter f ++ (if f q = true then [q] else []) := by
  rw [List.take_add_one, e, List.filter_append]
  by_cases c : f q = true <;> simp [c]
theorem nints_len {l : List Nat} : (nints l).length = l.length := by
  unfold nints
  rw [List.length_map]
theorem nints_app {l m : List Nat} : nints (l ++ m) = nints l ++ nints m := by
  unfold nints
  rw [List.map_append]
theorem nints_V {l : List Nat} : nints l = (l.map fun (n : Nat) => (n : Int)).map V.int := by
  unfold nints
  rw [List.map_map]
  rfl
theorem nints_get {l : List Nat} {i : Nat} {v : V} (h : (nints l)[i]? = some v) : ∃ n, l[i]? = some n ∧ v = .int (n : Nat) := by
  unfold nints at h
  rw [List.getElem?_map, Option.map_eq_some_iff] at h
  obtain ⟨n, h1, h2⟩ := h
  exact ⟨n, h1, h2.symm⟩
theorem lc_rfilt {m : Int} {n v : Nat} {tt : TT} {σ : L2.St} {H1 : Hp} {D : Addr} {Qd : Hp → Prop} (f : Nat → Bool) (hm : m.toNat = n) (hn : n ≤ 1000)
    (hw : ∀ x, wipe ((wipe σ [v]).set v x) [v] = wipe σ [v]) (hv : ∀ x, ((wipe σ [v]).set v x)[v]? = some x)
    (ht : ∀ (i : Nat) l (Q : Bool → Hp → Prop), i < n → Q (f i) (upd H1 D (.lst l)) → tt ((wipe σ [v]).set v (some (.int (i : Nat)))) (upd H1 D (.lst l)) Q)
    (hd : Qd (upd H1 D (.lst (nints ((List.range n).filter f))))) :
    ∃ W : Nat → Nat → Hp → Prop, (∃ k, W 0 k (upd H1 D (.lst []))) ∧ ∀ i k H, W i k H →
      ((Itr 0 m.toNat).stop i H ∧ Qd H) ∨ ((Itr 0 m.toNat).go i H ∧ ∃ Nx : Hp → Prop, (∀ H', Nx H' → ∃ k', k' < k ∧ W (i + 1) k' H') ∧ ∀ x H', (Itr 0 m.toNat).yld i H x H' → gName v x (wipe σ [v]) H' fun σ2 H2 => wipe σ2 [v] = wipe σ [v] ∧ tt σ2 H2 fun b H3 =>
        if b = true then tVar v σ2 H3 fun y H4 => ∃ acc, H4 D = some (.lst acc) ∧ acc.length < sizeLine ∧ Nx (upd H4 D (.lst (acc ++ [y]))) else Nx H3) := by
  subst hm
  refine lc_range (lo := 0) (n := m.toNat) (fun i H' => H' = upd H1 D (.lst (nints ((List.range i).filter f)))) rfl ?_ (fun H' e => by rw [e]; exact hd)
  rintro i H' hi rfl
  rw [show (0 : Int) + (i : Int) = (i : Nat) from Int.zero_add _]
  refine ⟨hw _, ht i _ _ hi ?_⟩
  rw [filter_range_succ']
  by_cases c : f i = true
  · rw [c, if_pos rfl, if_pos rfl]
    refine ⟨_, hv _, _, upd_same, ?_, ?_⟩
    · rw [nints_len]
      exact small1000 (Nat.le_trans (List.length_filter_le _ _) (by rw [List.length_range]; omega))
    · rw [upd_upd, nints_app]
      rfl
  · rw [Bool.eq_false_iff.mpr c, if_neg Bool.false_ne_true, if_neg Bool.false_ne_true, List.append_nil]
theorem lc_lfilt {K : PySem.W.Frag} {a : Addr} {l : List Nat} {v : Nat} {tt : TT} {σ : L2.St} {H1 : Hp} {D : Addr} {Qd : Hp → Prop} (f : Nat → Bool) (hn : l.length ≤ 1000) (ha : H1 a = some (.lst (nints l))) (naD : a ≠ D)
    (hw : ∀ x, wipe ((wipe σ [v]).set v x) [v] = wipe σ [v]) (hv : ∀ x, ((wipe σ [v]).set v x)[v]? = some x)
    (ht : ∀ (i k : Nat) us (Q : Bool → Hp → Prop), l[i]? = some k → Q (f k) (upd H1 D (.lst us)) → tt ((wipe σ [v]).set v (some (.int (k : Nat)))) (upd H1 D (.lst us)) Q)
    (hd : Qd (upd H1 D (.lst (nints (l.filter f))))) :
    ∃ W : Nat → Nat → Hp → Prop, (∃ k, W 0 k (upd H1 D (.lst []))) ∧ ∀ i k H, W i k H →
      ((Itl K a).stop i H ∧ Qd H) ∨ ((Itl K a).go i H ∧ ∃ Nx : Hp → Prop, (∀ H', Nx H' → ∃ k', k' < k ∧ W (i + 1) k' H') ∧ ∀ x H', (Itl K a).yld i H x H' → gName v x (wipe σ [v]) H' fun σ2 H2 => wipe σ2 [v] = wipe σ [v] ∧ tt σ2 H2 fun b H3 =>
        if b = true then tVar v σ2 H3 fun y H4 => ∃ acc, H4 D = some (.lst acc) ∧ acc.length < sizeLine ∧ Nx (upd H4 D (.lst (acc ++ [y]))) else Nx H3) := by
  refine lc_list (K := K) (a := a) (xs := nints l) (fun i H' => H' = upd H1 D (.lst (nints ((l.take i).filter f)))) rfl (fun i H' _ e => by rw [e]; exact SqL.of ((upd_ne naD).trans ha)) ?_ (fun H' e => by
    rw [e, nints_len, List.take_of_length_le (Nat.le_refl _)]
    exact hd)
  rintro i x H' hi rfl
  obtain ⟨k, hk, rfl⟩ := nints_get hi
  refine ⟨hw _, ht i k _ _ hk ?_⟩
  have il := (List.getElem?_eq_some_iff.mp hk).1
  rw [take_filter hk]
  by_cases c : f k = true
  · rw [c, if_pos rfl, if_pos rfl]
    refine ⟨_, hv _, _, upd_same, ?_, ?_⟩
    · rw [nints_len]
      exact small1000 (Nat.le_trans (List.length_filter_le _ _) (by rw [List.length_take]; omega))
    · rw [upd_upd, nints_app]
      rfl
  · rw [Bool.eq_false_iff.mpr c, if_neg Bool.false_ne_true, if_neg Bool.false_ne_true, List.append_nil]
theorem lc_rfiltS {m : Int} {n v : Nat} {tt : TT} {σ : L2.St} {H1 : Hp} {D : Addr} {Qd : Hp → Prop} (f : Nat → Bool) (hm : m.toNat = n) (hn : n ≤ 1000) (nD : H1 D = none)
    (hw : ∀ x, wipe ((wipe σ [v]).set v x) [v] = wipe σ [v]) (hv : ∀ x, ((wipe σ [v]).set v x)[v]? = some x)
    (ht : ∀ (i : Nat) H2 (Q : Bool → Hp → Prop), i < n → Same H1 H2 → (∀ H3, Same H2 H3 → Q (f i) H3) → tt ((wipe σ [v]).set v (some (.int (i : Nat)))) H2 Q)
    (hd : ∀ H', Same H1 H' → H' D = some (.lst (nints ((List.range n).filter f))) → Qd H') :
    ∃ W : Nat → Nat → Hp → Prop, (∃ k, W 0 k (upd H1 D (.lst []))) ∧ ∀ i k H, W i k H →
      ((Itr 0 m.toNat).stop i H ∧ Qd H) ∨ ((Itr 0 m.toNat).go i H ∧ ∃ Nx : Hp → Prop, (∀ H', Nx H' → ∃ k', k' < k ∧ W (i + 1) k' H') ∧ ∀ x H', (Itr 0 m.toNat).yld i H x H' → gName v x (wipe σ [v]) H' fun σ2 H2 => wipe σ2 [v] = wipe σ [v] ∧ tt σ2 H2 fun b H3 =>
        if b = true then tVar v σ2 H3 fun y H4 => ∃ acc, H4 D = some (.lst acc) ∧ acc.length < sizeLine ∧ Nx (upd H4 D (.lst (acc ++ [y]))) else Nx H3) := by
  subst hm
  refine lc_range (lo := 0) (n := m.toNat) (fun i H' => Same H1 H' ∧ H' D = some (.lst (nints ((List.range i).filter f)))) ⟨same_upd nD, upd_same⟩ ?_ (fun H' e => hd H' e.1 e.2)
  rintro i H' hi ⟨s', hD⟩
  rw [show (0 : Int) + (i : Int) = (i : Nat) from Int.zero_add _]
  refine ⟨hw _, ht i _ _ hi s' fun H3 s3 => ?_⟩
  have hD3 := s3 _ _ hD
  rw [filter_range_succ']
  by_cases c : f i = true
  · rw [c, if_pos rfl, if_pos rfl]
    refine ⟨_, hv _, _, hD3, ?_, fun b o e => ?_, ?_⟩
    · rw [nints_len]
      exact small1000 (Nat.le_trans (List.length_filter_le _ _) (by rw [List.length_range]; omega))
    · rw [upd_ne (ne_of_none e nD)]
      exact s3 _ _ (s' _ _ e)
    · rw [upd_same, nints_app]
      rfl
  · rw [Bool.eq_false_iff.mpr c, if_neg Bool.false_ne_true, if_neg Bool.false_ne_true, List.append_nil]
    exact ⟨s'.trans s3, hD3⟩
/-! ### results and lists of stops as data -/
section
open PySem.W (alike alikeAll dataLt AllAlike Sortable dataLe)
theorem plD_depth (b : Nat × Nat) : (plD b).depth ≤ 60 := by
  have e : (plD b).depth = 1 := by simp [plD, PyData.depth, PyData.depthAll]
  omega
def optD : Option (Nat × Nat) → PyData
  | none => .none
  | some s => plD s
theorem opt_dp {K : PySem.W.Frag} {H : Hp} {v : V} {o : Option (Nat × Nat)} (h : OptStop H v o) : Dp K H v (optD o) := by
  cases o with
  | none =>
    obtain rfl : v = .non := h
    exact .non
  | some s => exact stop_dp h
theorem optD_shaped (o : Option (Nat × Nat)) : PySem.SeqAt.shaped (optD o) = true := by
  cases o with
  | none => rfl
  | some s => exact plD_shaped s
theorem optD_eqv (a b : Option (Nat × Nat)) : PyData.eqv (optD a) (optD b) = decide (a = b) := by
  cases a with
  | none =>
    cases b with
    | none => simp [optD, PyData.eqv]
    | some t => simp [optD, plD, PyData.eqv]
  | some s =>
    cases b with
    | none => simp [optD, plD, PyData.eqv]
    | some t =>
      show PyData.eqv (plD s) (plD t) = _
      rw [plD_eqv]
      by_cases c : s = t
      · rw [decide_eq_true c, decide_eq_true (by rw [c])]
      · rw [decide_eq_false c, decide_eq_false fun e => c (Option.some.inj e)]
theorem plA_eqv : ∀ a b : List (Nat × Nat), PyData.eqvAll (a.map plD) (b.map plD) = decide (a = b)
  | [], [] => by simp [PyData.eqvAll]
  | [], _ :: _ => by simp [PyData.eqvAll]
  | _ :: _, [] => by simp [PyData.eqvAll]
  | x :: xs, y :: ys => by
    rw [List.map_cons, List.map_cons, PySem.W.eqv_all_cons, plD_eqv, plA_eqv xs ys]
    by_cases h1 : x = y <;> by_cases h2 : xs = ys <;> simp [h1, h2]
theorem plL_eqv (a b : List (Nat × Nat)) : PyData.eqv (.list (a.map plD)) (.list (b.map plD)) = decide (a = b) := by
  rw [← plA_eqv]
  simp [PyData.eqv]
theorem pl_any (l : List (Nat × Nat)) (s : Nat × Nat) : ((l.map plD).any fun z => PyData.eqv z (plD s)) = decide (s ∈ l) := by
  induction l with
  | nil => simp
  | cons a l ih =>
    rw [List.map_cons, List.any_cons, ih, plD_eqv]
    by_cases h1 : a = s <;> by_cases h2 : s ∈ l <;> simp [h1, h2]
    exact fun e => h1 e.symm
end
theorem ints_empty (l : List Nat) : (!PyData.eqv (.list ((l.map fun (n : Nat) => (n : Int)).map PyData.int)) (.list [])) = !l.isEmpty := by
  cases l <;> rfl
theorem ints_empty' (l : List Nat) : PyData.eqv (.list ((l.map fun (n : Nat) => (n : Int)).map PyData.int)) (.list []) = l.isEmpty := by
  cases l <;> rfl
theorem dec_le {a b : Nat} : decide ((a : Int) ≤ (b : Int)) = decide (a ≤ b) := by
  by_cases c : a ≤ b
  · rw [decide_eq_true c, decide_eq_true (by omega)]
  · rw [decide_eq_false c, decide_eq_false (by omega)]
theorem dec_intV {a b : Nat} : decide (V.int (a : Int) = V.int (b : Int)) = decide (a = b) := by
  by_cases c : a = b
  · rw [decide_eq_true c, decide_eq_true (by rw [c])]
  · rw [decide_eq_false c, decide_eq_false fun y => c (by have := V.int.inj y; omega)]
def tNotN (t : TE) : TT := tTest (tOp (fun x y H Q => y = V.non ∧ Q (V.bl (!decide (x = .non))) H) t (tC .non))
theorem Paired.app {α β : Type} {F : α → β → Prop} : ∀ {a : List α} {b : List β} {c : List α} {d : List β}, Paired F a b → Paired F c d → Paired F (a ++ c) (b ++ d)
  | _, _, _, _, .nil, q => q
  | _, _, _, _, .cons r t, q => .cons r (Paired.app t q)
/-! ### slices and sums of tuples -/
theorem slA_case {K : PySem.W.Frag} {t0 : Addr} {ts : List V} {lo hi : Option Int} {H : Hp} {Q : VK} (ht : H t0 = some (.tup ts)) (h : ∀ b H', Same H H' → H' b = some (.tup (cutV ts lo hi)) → Q (.ref b) H') : rSlA K (.ref t0) lo hi H Q := by
  refine ⟨t0, ts, rfl, SqT.of ht, fun hf => h t0 H (.refl H) ?_, fun hn p np => h p _ (same_upd np) upd_same⟩
  unfold cutV
  rw [hf.1, hf.2, List.drop_zero, Nat.sub_zero, List.take_of_length_le (Nat.le_refl _)]
  exact ht
theorem catA_case {K : PySem.W.Frag} {a b : Addr} {xs ys : List V} {H : Hp} {Q : VK} (ha : H a = some (.tup xs)) (hb : H b = some (.tup ys)) (hl : xs.length + ys.length ≤ sizeLine) (h : ∀ c H', Same H H' → H' c = some (.tup (xs ++ ys)) → Q (.ref c) H') : rCatA K (.ref a) (.ref b) H Q := by
  refine ⟨a, b, xs, ys, rfl, rfl, SqT.of ha, SqT.of hb, hl, fun e => ?_, fun _ e => ?_, fun _ _ p np => h p _ (same_upd np) upd_same⟩
  · subst e
    exact h b H (.refl H) hb
  · subst e
    rw [List.append_nil] at h
    exact h a H (.refl H) ha
/-- the orders but the k-th -/
def wo (os : List Od) (k : Nat) : List Od := os.take k ++ os.drop (k + 1)
theorem wo_ok {p h k : Nat} {os : List Od} (ok : NetOk p h os) : NetOk p h (wo os k) := by
  refine { ok with len := ?_, ok := fun o ho => ?_ }
  · unfold wo
    rw [List.length_append, List.length_take, List.length_drop]
    have := ok.len
    omega
  · rcases List.mem_append.mp ho with z | z
    · exact ok.ok o (List.mem_of_mem_take z)
    · exact ok.ok o (List.mem_of_mem_drop z)
/-! ### slices and sums of lists -/
theorem slL_case {K : PySem.W.Frag} {a : Addr} {xs : List V} {lo hi : Option Int} {H : Hp} {Q : VK} (ha : H a = some (.lst xs)) (h : ∀ b H', Same H H' → H b = none → H' b = some (.lst (cutV xs lo hi)) → Q (.ref b) H') : rSlL K (.ref a) lo hi H Q :=
  ⟨a, xs, rfl, SqL.of ha, fun p np => h p _ (same_upd np) np upd_same⟩
theorem catL_case {a b : Addr} {xs ys : List V} {H : Hp} {Q : VK} (ha : H a = some (.lst xs)) (hb : H b = some (.lst ys)) (hl : xs.length + ys.length ≤ sizeLine) (h : ∀ c H', Same H H' → H c = none → H' c = some (.lst (xs ++ ys)) → Q (.ref c) H') : rCat (.ref a) (.ref b) H Q :=
  ⟨a, b, xs, ys, rfl, rfl, ha, hb, hl, fun p np => h p _ (same_upd np) np upd_same⟩
theorem Paired.setAt {α β : Type} {F : α → β → Prop} {x : α} {y : β} : ∀ {l1 : List α} {l2 : List β} (k : Nat), Paired F l1 l2 → F x y → Paired F (l1.set k x) (l2.set k y)
  | _, _, _, .nil, _ => .nil
  | _, _, 0, .cons _ t, q => .cons q t
  | _, _, k + 1, .cons r t, q => .cons r (Paired.setAt k t q)
/-! ### delivered by a day, on a day -/
def byDay (p h : Nat) (os : List Od) (day : Nat) (s : Nat × Nat) : Bool := match dst p h os s with
  | none => false
  | some c => decide (c.2 ≤ day)
def onDayB (p h : Nat) (os : List Od) (day : Nat) (s : Nat × Nat) : Bool := match dst p h os s with
  | none => false
  | some c => decide (c.2 = day)
theorem byDay_some {p h day : Nat} {os : List Od} {s c : Nat × Nat} (e : dst p h os s = some c) : byDay p h os day s = decide ((c.2 : Int) ≤ (day : Int)) := by
  unfold byDay
  rw [e, dec_le]
theorem onDay_some {p h day : Nat} {os : List Od} {s c : Nat × Nat} (e : dst p h os s = some c) : onDayB p h os day s = decide (V.int (c.2 : Int) = V.int (day : Int)) := by
  unfold onDayB
  rw [e, dec_intV]
theorem odK {p h s t f n e : Nat} (h1 : s < h) (h2 : t < h) (h3 : s ≠ t) (h4 : f < p) (h5 : 1 ≤ n) (h6 : n ≤ p) (h7 : 1 ≤ e) (h8 : e ≤ 9) : OdOk p h ⟨s, t, f, n, e⟩ := ⟨h1, h2, h3, h4, h5, h6, h7, h8⟩
abbrev s_count_chasing : Stmt := top 42
abbrev N_count_chasing : List Str := ["net"]
abbrev P_count_chasing : List Str := ["net"]
theorem sc_count_chasing : FnScope N_count_chasing P_count_chasing (defScope s_count_chasing) := ⟨rfl, rfl, rfl, by decide +kernel, rfl, by decide +kernel, by decide +kernel⟩
/-! ### how many letters chase -/
def chN (p h : Nat) (os : List Od) : Nat := ((lets p h).filter fun s => (dst p h os s).isNone).length
theorem optDs_plain : ∀ l : List (Option (Nat × Nat)), PyData.plainAll (l.map optD) = true
  | [] => by simp [PyData.plainAll]
  | none :: l => by simp [PyData.plainAll, PyData.plain, optD, optDs_plain l]
  | some s :: l => by simp [PyData.plainAll, PyData.plain, optD, plD, optDs_plain l]
theorem count_none (l : List (Option (Nat × Nat))) : ((l.map optD).countP fun z => PyData.eqv z .none) = l.countP (·.isNone) := by
  induction l with
  | nil => rfl
  | cons o l ih =>
    rw [List.map_cons, List.countP_cons, List.countP_cons, ih]
    congr 1
    rw [show (PyData.none) = optD none from rfl, optD_eqv]
    cases o <;> simp
def spChasing (C : Addr) : Sp := fun vs H Q _ => ∃ (x t : Addr) (p h : Nat) (os : List Od) (F : List Addr), vs = [.ref x] ∧ NetAt C H x p h os t F ∧ NetOk p h os ∧ ∀ H', Same H H' → Q (.int (chN p h os : Nat)) H'
section
variable {P : Program} {w : World} {K : PySem.W.Frag} {mg : Str → Option Value} {base : Heap}
theorem opts_dp {K : PySem.W.Frag} {H : Hp} {f : Nat × Nat → V} {g : Nat × Nat → Option (Nat × Nat)} : ∀ {ks : List (Nat × Nat)}, (∀ q ∈ ks, OptStop H (f q) (g q)) → DpAll K H (ks.map f) ((ks.map g).map optD)
  | [], _ => .nil
  | q :: ks, h => .cons (opt_dp (h q List.mem_cons_self)) (opts_dp fun r hr => h r (List.mem_cons_of_mem _ hr))
theorem lets_nd {p h : Nat} : (lets p h).Nodup := List.Pairwise.imp (fun {a b} q e => by
  have := ltS_iff.mp q
  rw [e] at this
  omega) lets_pw
theorem ok_chasing {f C : Addr} {fd : FuncData} (F : Fun K "count_chasing" "count_chasing" s_count_chasing f fd) (B : Blt mg) (DW : Df P w K mg base "find_ways" 4 P_find_ways (spFindWays C)) : FnOk P w K mg base CX0 5 f fd P_count_chasing (spChasing C) := by
  obtain ⟨fW, fdW, gW, kW, bW, GW⟩ := DW
  refine F.ok sc_count_chasing (fun vs H Q E h => ?_) (fun cdv A outer s H vs Q E hr h => ?_)
  · obtain ⟨x, t, p, h, os, F, rfl, _⟩ := h
    rfl
  · obtain ⟨x, t, p, h, os, F, rfl, Nt, nok, q⟩ := h
    have hu : (A.deeper (PyProof.Rows.envOfC "count_chasing" (defScope s_count_chasing) s.heap.objs.size f cdv)).units + 65 < cLine := by
      have := hr.un
      omega
    refine ⟨_, pss_one (ps_ret (pe_bm PySem.F.plainAttrs_list PySem.F.slot_list_count PySem.F.type_list_count (mt_countD hu) (pe_callTy (call_list_valuesT rfl) (by rfl) B.list (by decide +kernel) (pa_cons (pe_bm0 PySem.F.plainAttrs_dict PySem.F.slot_dict_values PySem.F.type_dict_values mt_valuesT (pe_call GW hr (by rfl) gW kW bW .nil pass0 (pa_cons (pv 0) pa_nil))) pa_nil)) (pa_cons pe_non pa_nil))), ?_⟩
    refine ⟨_, rfl, x, t, p, h, os, F, rfl, Nt, nok, fun H1 d ks f s1 nd W1 hks => ?_⟩
    refine ⟨.inr (.inr (.inl ⟨rfl, .inr ⟨_, W1.tab⟩⟩)), d, _, rfl, rfl, W1.tab, fun v nv => ?_⟩
    have s2 := same_upd (o := valsO v d) nv
    have W2 := W1.same s2
    have ev : (wkv p ks f).map (·.2) = ks.map f := by
      unfold wkv
      rw [List.map_map]
      rfl
    refine ⟨v, d, _, rfl, upd_same, W2.tab, ?_⟩
    rw [ev]
    intro l nl
    have s3 := same_upd (o := HO.lst (ks.map f)) nl
    have W3 := W2.same s3
    refine ⟨.inl ⟨rfl, _, SqL.of upd_same⟩, l, _, .non, .none, _, rfl, rfl, SqL.of upd_same, opts_dp W3.ways, .non, optDs_plain _, rfl, by decide, ?_⟩
    rw [count_none, List.countP_map]
    have perm : ks.Perm (lets p h) := (List.perm_ext_iff_of_nodup W1.nd lets_nd).mpr hks
    rw [perm.countP_eq, List.countP_eq_length_filter]
    have e : ((lets p h).filter ((fun (o : Option (Nat × Nat)) => o.isNone) ∘ wayOf p h os)) = (lets p h).filter fun s => (dst p h os s).isNone := by
      congr 1
      funext s
      show (wayOf p h os s).isNone = _
      unfold wayOf
      cases dst p h os s <;> rfl
    rw [e]
    exact q _ (s1.trans (s2.trans s3))
end
/-! ### t.count(x), max(t, default=d), t a tuple -/
section
open PySem.Spec PyProof.Rows
open PySem.W (alike alikeAll dataLt maxD AlikeAll max_tuple_default)
def rCntT (K : PySem.W.Frag) : V → List V → Hp → VK → Prop := fun x xs H Q => ∃ (a : Addr) (ys : List V) (y : V) (d : PyData) (ds : List PyData), x = V.ref a ∧ xs = [y] ∧ SqT K H a ys ∧ DpAll K H ys ds ∧ Dp K H y d ∧ PyData.plainAll ds = true ∧ d.plain = true ∧ d.depth ≤ 60 ∧ Q (.int ((ds.countP fun z => PyData.eqv z d : Nat) : Int)) H
theorem mt_countT {X : Cx} (hu : X.A.units + 65 < cLine) : MtR X "tuple.count" (rCntT X.K) := by
  intro pins s σ H x xs v us Q I rx rxs h
  obtain ⟨a, ys, y, d, ds, rfl, rfl, hl, hds, hd, p1, p2, hdp, q⟩ := h
  cases rx
  cases rxs with
  | cons ry rt =>
    rename_i uy ut
    cases rt
    obtain ⟨bs, r1⟩ := Dp.reads I d y uy hd ry
    obtain ⟨its, rv, hL, _⟩ := I.tuple hl
    obtain ⟨as, hr⟩ := Dp.readsAll I ds ys its hds rv
    refine PySem.SeqAt.count_tuple_data hL hr r1 p1 p2 (by omega) ⟨.int _, H, I.tok _, ⟨_, rfl⟩, q⟩
def rMaxDefT (K : PySem.W.Frag) : List V → List V → Hp → VK → Prop := fun vs zs H Q => ∃ (a : Addr) (ns : List Int) (d : V), vs = [V.ref a] ∧ zs = [d] ∧ SqT K H a (ns.map V.int) ∧ (ns = [] → Q d H) ∧ ∀ m, m ∈ ns → (∀ y, y ∈ ns → y ≤ m) → Q (.int m) H
theorem cr_maxDefT {X : Cx} (hc : X.calm = true) (hu : X.A.units + 65 < cLine) : CallRK X (.builtin "max") [Str.ofString "default"] (rMaxDefT X.K) := by
  intro pins s σ H vs zs us ws Q I r rz h
  obtain ⟨a, ns, d, rfl, rfl, hs, q0, q⟩ := h
  obtain ⟨its, rv, hl, _⟩ := I.tuple hs
  rw [Vals.ref1 r]
  cases rz with
  | cons rd rt =>
    cases rt
    rename_i dv
    obtain ⟨as, hr⟩ := Dp.readsAll I (ns.map PyData.int) (ns.map V.int) its (ints_dp ns) rv
    refine max_tuple_default (I.ok.hd hc) hl hr (ints_alike ns) (by rw [ints_depth]; omega) (fun e h' tk hk => ?_) fun y ys i v h' tk bs e hi rd' hk => ?_
    · exact ⟨d, H, I.kept (t' := tk) hk, rd, q0 (List.map_eq_nil_iff.mp e)⟩
    · cases ns with
      | nil => cases e
      | cons n ns =>
        rw [List.map_cons] at e
        injection e with e1 e2
        subst e1
        subst e2
        rw [maxD_int] at rd'
        obtain ⟨m1, m2⟩ := maxI_spec ns n
        have hi2 : its[i]? = some v := by simpa using hi
        have hil : i < (List.map V.int (n :: ns)).length := by
          rw [rv.length]
          exact (List.getElem?_eq_some_iff.mp hi2).1
        obtain ⟨u, hu2, ru⟩ := rv.get (List.getElem?_eq_getElem hil)
        obtain rfl : u = v := Option.some.inj (hu2.symm.trans hi2)
        cases rd'
        exact ⟨.int _, H, I.kept (t' := tk) hk, ⟨_, rfl⟩, q _ m1 m2⟩
end
/-! ### tuples whose object is known: `(x,)`, `t + u`, t.count(x) -/
section
open PySem.Spec PyProof.Rows
/-- a tuple's object: no dict of its own -/
def TO (o : Obj) : Prop := o.cls = .type "tuple" ∧ o.dict = none
def FzT (H : Hp) (a : Addr) (xs : List V) : Prop := ∃ o, TO o ∧ H a = some (.frz o (.tup xs))
theorem FzT.sq {K : PySem.W.Frag} {H : Hp} {a : Addr} {xs : List V} (f : FzT H a xs) : SqT K H a xs := by
  obtain ⟨o, _, e⟩ := f
  exact .inl (.inr ⟨o, e⟩)
def tTupF (t : TA) : TE := fun ρ H Q => t ρ H fun ys H1 => ys.length ≤ sizeLine ∧ ∀ a o, H1 a = none → TO o → Q (.ref a) (upd H1 a (.frz o (.tup ys)))
theorem pe_tupF {X : Cx} {es : List Expr} {t : TA} {pos : Pos} {x1} (ha : PA X es t) : PE X (.Tuple es x1 pos) (tTupF t) := by
  constructor
  intro pns sh ρ H Qv Iv hq
  refine wpAny_Tuple_spliced (thn (ha.run pos pns sh ρ H _ Iv hq) fun ws s1 ⟨ys, H1, I1, rv, zl, q⟩ => ⟨by rw [← rv.length]; exact zl, ?_⟩)
  have nf : H1 s1.heap.objs.size = none := I1.hok.fresh (Nat.le_refl _)
  refine ⟨.ref s1.heap.objs.size, _, I1.laid (t' := s1.toks) (o := .frz { cls := .type "tuple", data := .seq ws.toArray } (.tup ys)) (fun b u e => Heap.get?_push_of_some _ e) (Nat.le_refl _) ?_, rfl, q _ _ nf ⟨rfl, rfl⟩⟩
  exact ⟨Heap.get?_push_size _ rfl, zl, ws, rv, ⟨_, Heap.get?_push_size _ rfl, rfl, _, rfl⟩⟩
/-- t + u, u not empty -/
def rCatF (K : PySem.W.Frag) : R2 := fun x y H Q => ∃ a b xs ys, x = .ref a ∧ y = .ref b ∧ SqT K H a xs ∧ SqT K H b ys ∧ ys ≠ [] ∧ xs.length + ys.length ≤ sizeLine ∧
  (xs = [] → Q (.ref b) H) ∧ (xs ≠ [] → ∀ p o, H p = none → TO o → Q (.ref p) (upd H p (.frz o (.tup (xs ++ ys)))))
theorem op_catF {X : Cx} : OpR X (binaryOp .Add) (rCatF X.K) := by
  intro pns sh ρ H x y v u Qv Iv rx ry hx
  obtain ⟨a, b, xs, ys, rfl, rfl, ha, hb, ny, zl, q0, q1⟩ := hx
  by_cases e0 : xs = []
  · subst e0
    exact op_catA pns sh ρ H _ _ v u Qv Iv rx ry ⟨a, b, [], ys, rfl, rfl, ha, hb, zl, fun _ => q0 rfl, fun z => absurd rfl z, fun z => absurd rfl z⟩
  · cases rx
    cases ry
    obtain ⟨ws, r1, p1, _⟩ := Iv.tuple ha
    obtain ⟨zs, r2, p2, _⟩ := Iv.tuple hb
    refine HT.cat_tup p1 p2 (fun z => e0 (r1.nil_iff.mp z)) (fun z => absurd (r2.nil_iff.mp z) ny) (fun z => ?_) (by rw [← r1.length, ← r2.length]; exact zl)
    refine ⟨.ref sh.heap.objs.size, _, Iv.laid (t' := sh.toks) (o := .frz { cls := .type "tuple", data := .seq (ws ++ zs).toArray } (.tup (xs ++ ys))) (fun b ob q => Heap.get?_push_of_some _ q) (Nat.le_refl _) ?_, rfl, q1 e0 _ _ (Iv.hok.fresh (Nat.le_refl _)) ⟨rfl, rfl⟩⟩
    exact ⟨Heap.get?_push_size _ rfl, by rw [List.length_append]; exact zl, _, r1.append r2, ⟨_, Heap.get?_push_size _ rfl, rfl, _, rfl⟩⟩
/-- t.m(..), t such a tuple -/
def tBMF (r : V → List V → Hp → VK → Prop) (to : TE) (t : TA) : TE := fun ρ H Q => to ρ H fun x H1 => (∃ a xs, x = .ref a ∧ FzT H1 a xs) ∧ t ρ H1 fun ys H2 => r x ys H2 Q
theorem pe_bmF {X : Cx} {o e : Expr} {es : List Expr} {to : TE} {t : TA} {r : V → List V → Hp → VK → Prop} {name : Str} {id : String} {apos cpos : Pos} (pa : PlainAttrs "tuple") (slot : Slot "tuple" name id) (hty : typeOf (.builtin id) = pure (.type "method_descriptor")) (hm : MtR X id r) (ho : PE X o to) (ha : PA X (e :: es) t)
    (hbase : attributeBase o name X.env (eval o X.env) = eval o X.env := by rfl)
    (hfew : ((backTo cpos (starEach (e :: es) X.env)).all (fun z => !z.1) && (backToKw cpos (keywordEach [] X.env)).all (fun z => z.1.isSome) && decide ((e :: es).length + ([] : List Keyword).length + (if ([] : List Keyword).isEmpty then 0 else 1) < 30)) = true := by rfl)
    (hline : (apos.endLine == cpos.line) = true := by rfl) (hs : starEach (e :: es) X.env = (false, eval e X.env) :: starEach es X.env := by rfl) (hplain : (backTo cpos (starEach es X.env)).any (·.1) = false := by rfl) :
    PE X (.Call (.Attribute o name apos) (e :: es) [] cpos) (tBMF r to t) := by
  constructor
  intro pns sh ρ H Qv Iv hx
  refine wpAny_Call_method_late hbase hfew hline rfl (thn (ho.run pns sh ρ H _ Iv hx) fun v s1 ⟨x, H1, I1, r1, ⟨a, xs, ex, ob, ⟨oc, od⟩, eo⟩, q1⟩ => ?_)
  subst ex
  cases r1
  obtain ⟨hob, _⟩ := I1.hok a _ eo
  refine ⟨"tuple", id, pa, slot, hty, ⟨ob, hob, oc⟩, fun b e => ?_, ?_⟩
  · cases e
    exact ⟨ob, hob, od⟩
  have hA := ha.run cpos pns s1 ρ H1 _ I1 q1
  rw [hs] at hA ⊢
  refine Calls.callWith_builtin (by show (false || (backTo cpos (starEach es X.env)).any (·.1)) = false; rw [hplain] <;> rfl) (Calls.evalArgs_plain ?_)
  exact thn hA fun us s2 ⟨vs, H2, I2, r2, q2⟩ => hm pns s2 ρ H2 (.ref a) vs (.ref a) us Qv I2 rfl r2 q2
end
/-! ### xs[::-1] -/
section
open PySem.Spec PyProof.Rows
theorem vals_rev : ∀ {xs : List V} {us : List Value}, Vals xs us → Vals xs.reverse us.reverse
  | _, _, .nil => .nil
  | _, _, .cons r t => by
    rw [List.reverse_cons, List.reverse_cons]
    exact Vals.append (vals_rev t) (.cons r .nil)
def tRevL (K : PySem.W.Frag) (te ts : TE) : TE := fun ρ H Q => te ρ H fun x H1 => ts ρ H1 fun y H2 => y = .int (-1) ∧ ∃ a xs, x = .ref a ∧ SqL K H2 a xs ∧ ∀ p, H2 p = none → Q (.ref p) (upd H2 p (.lst xs.reverse))
theorem pe_revL {X : Cx} {e st : Expr} {te ts : TE} {p2 pos : Pos} (he : PE X e te) (hst : PE X st ts) : PE X (.Subscript e (.Slice none none (some st) p2) pos) (tRevL X.K te ts) := by
  constructor
  intro pns sh ρ H Qv Iv hq
  refine Subscript_ (thn (he.run pns sh ρ H _ Iv hq) fun v s1 ⟨x, H1, I1, r1, q1⟩ => ?_)
  refine wpAny_Slice ?_
  rw [evalPart_none]
  refine wpAny_pure (wpAny_pure ?_)
  rw [evalPart_some]
  refine thn (hst.run pns s1 ρ H1 _ I1 q1) fun vs s3 ⟨y, H3, I3, r3, ey, a, xs, ex, hx, q⟩ => ?_
  subst ey
  subst ex
  obtain ⟨tk, rfl⟩ := r3
  cases r1
  have I4 : Inv X pns ρ H3 { s3 with heap := s3.heap.push { cls := .type "slice", data := .fields #[.none, .none, .int (-1) tk] } } := I3.kept (t' := s3.toks) fun b ob z => Heap.get?_push_of_some _ z
  obtain ⟨ws, rv, ht, hz⟩ := I4.list hx
  have hlen := rv.length
  show wpAny (model X.prog X.w) X.A (subscriptTail e (.Slice none none (some st) p2) (.ref a) (.ref s3.heap.objs.size)) (EP X pns ρ Qv) X.xe { s3 with heap := s3.heap.push { cls := .type "slice", data := .fields #[.none, .none, .int (-1) tk] } }
  refine tail_any (ops := [.ref a, .ref s3.heap.objs.size]) ht.isList.typeIs slot_list_getitem.lookup ?_ (by with_unfolding_all rfl)
  refine wpAny_getItem_list_slice ht.isList (Heap.IsSliceOf.new ..) .none .none (.int (-1) tk) (by decide) ?_ (by rw [List.size_toArray] <;> omega)
  rw [PySem.W.krv_pick]
  refine ⟨.ref _, _, I4.laid (t' := s3.toks) (o := .lst xs.reverse) (fun b ob z => Heap.get?_push_of_some _ z) (Nat.le_refl _) ?_, rfl, q _ (I4.hok.fresh (Nat.le_refl _))⟩
  exact ⟨by rw [List.length_reverse]; exact hz, ws.reverse, 0, vals_rev rv, Heap.get?_push_size _ rfl⟩
end
/-! ### plans: orders that hold longer -/
def prO (l : List Nat) (k : Nat) (o : Od) : Od := { o with n := o.n + l.count k }
/-- the orders, each longer by as many days as its number comes in the plan -/
def prol (l : List Nat) (os : List Od) : List Od := os.mapIdx fun k o => prO l k o
theorem prol_take {l : List Nat} {os : List Od} {i : Nat} {o : Od} (e : os[i]? = some o) : prol l (os.take (i + 1)) = prol l (os.take i) ++ [prO l i o] := by
  unfold prol
  have il := (List.getElem?_eq_some_iff.mp e).1
  rw [List.take_add_one, e, Option.toList_some, List.mapIdx_append]
  have : (os.take i).length = i := by rw [List.length_take]; omega
  simp [this]
theorem prol_len {l : List Nat} {os : List Od} : (prol l os).length = os.length := by
  unfold prol
  exact List.length_mapIdx
/-- no order would hold on more days than the period has -/
def mayB (p : Nat) (os : List Od) (l : List Nat) : Bool := l.all fun k => match os[k]? with
  | some o => decide (o.n + l.count k ≤ p)
  | none => false
theorem prol_ok {p h : Nat} {os : List Od} {l : List Nat} (ok : NetOk p h os) (m : mayB p os l = true) : NetOk p h (prol l os) := by
  refine { ok with len := by rw [prol_len]; exact ok.len, ok := fun o' ho => ?_ }
  obtain ⟨i, hi⟩ := List.getElem?_of_mem ho
  unfold prol at hi
  rw [List.getElem?_mapIdx] at hi
  obtain ⟨o, eo, rfl⟩ := Option.map_eq_some_iff.mp hi
  have k0 := ok.ok o (List.mem_of_getElem? eo)
  have kn := k0.n
  have k1 := k0.n1
  refine ⟨k0.s, k0.t, k0.st, k0.f, ?_, ?_, k0.e1, k0.e⟩
  · show 1 ≤ o.n + l.count i
    omega
  · show o.n + l.count i ≤ p
    by_cases c : i ∈ l
    · have := List.all_eq_true.mp m i c
      rw [eo] at this
      exact of_decide_eq_true this
    · rw [List.count_eq_zero_of_not_mem c]
      omega
/-- what is known to the object stays so -/
def FK (H H' : Hp) : Prop := ∀ b o u, H b = some (.frz o u) → H' b = some (.frz o u)
theorem fk_of {H H' : Hp} (s : Same H H') : FK H H' := fun b _ _ e => s b _ e
theorem FK.trans {H H1 H2 : Hp} (a : FK H H1) (b : FK H1 H2) : FK H H2 := fun c o u e => b c o u (a c o u e)
theorem FK.lst {H : Hp} {d : Addr} {xs : List V} {o : HO} (h : H d = some (.lst xs)) : FK H (upd H d o) := fun b _ _ e => by
  rw [upd_ne (ne_of e h (by intro z; cases z))]
  exact e
theorem FzT.keep {H H' : Hp} {a : Addr} {xs : List V} (k : FK H H') (f : FzT H a xs) : FzT H' a xs := by
  obtain ⟨o, t, e⟩ := f
  exact ⟨o, t, k _ _ _ e⟩
def PlanAt (H : Hp) (v : V) (l : List Nat) : Prop := ∃ u, v = .ref u ∧ FzT H u (nints l)
theorem PlanAt.keep {H H' : Hp} {v : V} {l : List Nat} (k : FK H H') (q : PlanAt H v l) : PlanAt H' v l := by
  obtain ⟨u, e, hu⟩ := q
  exact ⟨u, e, hu.keep k⟩
theorem PlansAt.keep {H H' : Hp} {vs : List V} {l : List (List Nat)} (k : FK H H') (q : Paired (PlanAt H) vs l) : Paired (PlanAt H') vs l := Paired.mapP q fun _ _ z => z.keep k
def OptPlan (H : Hp) (v : V) : Option (List Nat) → Prop
  | none => v = .non
  | some l => PlanAt H v l
theorem nints_dps {K : PySem.W.Frag} {H : Hp} : ∀ l : List Nat, DpAll K H (nints l) (l.map fun (n : Nat) => PyData.int n)
  | [] => .nil
  | _ :: l => .cons (.int _) (nints_dps l)
theorem cnt_ints (l : List Nat) (k : Nat) : ((l.map fun (n : Nat) => PyData.int n).countP fun z => PyData.eqv z (.int k)) = l.count k := by
  induction l with
  | nil => rfl
  | cons n r ih =>
    rw [List.map_cons, List.countP_cons, ih, List.count_cons]
    have e : PyData.eqv (.int (n : Nat)) (.int (k : Nat)) = (n == k) := by
      rw [int_eqv]
      by_cases c : n = k
      · rw [decide_eq_true (by rw [c]), c, beq_self_eq_true]
      · rw [decide_eq_false (by omega), beq_eq_false_iff_ne.mpr c]
    rw [e]
theorem ints_plain (l : List Nat) : PyData.plainAll (l.map fun (n : Nat) => PyData.int n) = true := by
  induction l with
  | nil => rfl
  | cons n r ih => simp [PyData.plainAll, PyData.plain, ih]
def spProlonged (C : Addr) : Sp := fun vs H Q _ => ∃ (x t : Addr) (v : V) (p h : Nat) (os : List Od) (l : List Nat) (F : List Addr), vs = [.ref x, v] ∧ PlanAt H v l ∧ NetAt C H x p h os t F ∧ NetOk p h os ∧ NetOk p h (prol l os) ∧
  ∀ H' x' t' F', Same H H' → NetAt C H' x' p h (prol l os) t' F' → Q (.ref x') H'
def spMay (C : Addr) : Sp := fun vs H Q _ => ∃ (x t : Addr) (v : V) (p h : Nat) (os : List Od) (l : List Nat) (F : List Addr), vs = [.ref x, v] ∧ PlanAt H v l ∧ l.length ≤ 1000 ∧ (∀ k ∈ l, k < os.length) ∧ NetAt C H x p h os t F ∧ NetOk p h os ∧
  ∀ H', Same H H' → Q (.bl (mayB p os l)) H'
abbrev s_list_plans : Stmt := top 43
abbrev N_list_plans : List Str := ["many", "size", "plans", "place", "plan", "number"]
abbrev P_list_plans : List Str := ["many", "size"]
theorem sc_list_plans : FnScope N_list_plans P_list_plans (defScope s_list_plans) := ⟨rfl, rfl, rfl, by decide +kernel, rfl, by decide +kernel, by decide +kernel⟩
/-! ### all plans of a size -/
def maxN (l : List Nat) : Nat := l.foldl max 0
def longer (many : Nat) (l : List Nat) : List (List Nat) := ((List.range many).filter fun n => decide (maxN l ≤ n)).map fun n => l ++ [n]
def plansN (many : Nat) : Nat → List (List Nat)
  | 0 => [[]]
  | s + 1 => (plansN many s).flatMap (longer many)
theorem longer_len {many : Nat} {l : List Nat} : (longer many l).length ≤ many := by
  unfold longer
  rw [List.length_map]
  exact Nat.le_trans (List.length_filter_le _ _) (by rw [List.length_range]; exact Nat.le_refl _)
theorem flat_le {many : Nat} : ∀ ls : List (List Nat), (ls.flatMap (longer many)).length ≤ ls.length * many
  | [] => by simp
  | l :: ls => by
    rw [List.flatMap_cons, List.length_append, List.length_cons, Nat.succ_mul]
    have := flat_le (many := many) ls
    have := longer_len (many := many) (l := l)
    omega
theorem plansN_len {many : Nat} : ∀ s, (plansN many s).length ≤ many ^ s
  | 0 => Nat.le_refl _
  | s + 1 => by
    show ((plansN many s).flatMap (longer many)).length ≤ _
    rw [Nat.pow_succ]
    exact Nat.le_trans (flat_le _) (Nat.mul_le_mul_right _ (plansN_len s))
theorem plansN_mem {many : Nat} : ∀ s, ∀ l ∈ plansN many s, l.length = s ∧ ∀ n ∈ l, n < many
  | 0 => fun l hl => by
    rw [List.mem_singleton.mp hl]
    exact ⟨rfl, fun n hn => by cases hn⟩
  | s + 1 => fun l hl => by
    obtain ⟨l0, h0, h1⟩ := List.mem_flatMap.mp hl
    obtain ⟨n, hn, rfl⟩ := List.mem_map.mp h1
    obtain ⟨e, k⟩ := plansN_mem s l0 h0
    refine ⟨by rw [List.length_append, e]; rfl, fun m hm => ?_⟩
    rcases List.mem_append.mp hm with z | z
    · exact k m z
    · rw [List.mem_singleton.mp z]
      exact List.mem_range.mp (List.mem_filter.mp hn).1
theorem maxN_spec (l : List Nat) : (∀ n ∈ l, n ≤ maxN l) ∧ (l = [] → maxN l = 0) ∧ (l ≠ [] → maxN l ∈ l) := by
  have g : ∀ (l : List Nat) (a : Nat), a ≤ l.foldl max a ∧ (∀ n ∈ l, n ≤ l.foldl max a) ∧ (l.foldl max a = a ∨ l.foldl max a ∈ l) := by
    intro l
    induction l with
    | nil => exact fun a => ⟨Nat.le_refl _, (fun n h => by cases h), .inl rfl⟩
    | cons x r ih =>
      intro a
      obtain ⟨g1, g2, g3⟩ := ih (max a x)
      refine ⟨Nat.le_trans (Nat.le_max_left _ _) g1, fun n hn => ?_, ?_⟩
      · rcases List.mem_cons.mp hn with z | z
        · rw [z]
          exact Nat.le_trans (Nat.le_max_right _ _) g1
        · exact g2 n z
      · rcases g3 with g3 | g3
        · by_cases c : a ≤ x
          · refine .inr ?_
            show r.foldl max (max a x) ∈ _
            rw [g3, Nat.max_eq_right c]
            exact List.mem_cons_self ..
          · refine .inl ?_
            show r.foldl max (max a x) = a
            rw [g3, Nat.max_eq_left (by omega)]
        · exact .inr (List.mem_cons_of_mem _ g3)
  obtain ⟨g1, g2, g3⟩ := g l 0
  refine ⟨g2, fun e => by rw [e]; rfl, fun ne => ?_⟩
  rcases g3 with g3 | g3
  · cases l with
    | nil => exact absurd rfl ne
    | cons x r =>
      have e := g2 x (List.mem_cons_self ..)
      rw [g3] at e
      have : x = 0 := by omega
      show (x :: r).foldl max 0 ∈ x :: r
      rw [g3, this]
      exact List.mem_cons_self ..
  · exact g3
theorem maxDef_N {K : PySem.W.Frag} {u : Addr} {l : List Nat} {H : Hp} {Q : VK} (f : SqT K H u ((l.map fun (n : Nat) => (n : Int)).map V.int)) (q : Q (.int (maxN l : Nat)) H) : rMaxDefT K [.ref u] [.int 0] H Q := by
  obtain ⟨m1, m2, m3⟩ := maxN_spec l
  refine ⟨u, _, _, rfl, rfl, f, fun e => ?_, fun m hm hy => ?_⟩
  · have e2 := m2 (List.map_eq_nil_iff.mp e)
    rw [e2] at q
    exact q
  · obtain ⟨n, hn, rfl⟩ := List.mem_map.mp hm
    have ne : l ≠ [] := fun z => by rw [z] at hn; cases hn
    have h1 := m1 n hn
    have h2 := hy _ (List.mem_map.mpr ⟨_, m3 ne, rfl⟩)
    have e : n = maxN l := by omega
    rw [e]
    exact q
/-- an outer list, an inner range -/
theorem lc2_lst {K : PySem.W.Frag} {a : Addr} {xs : List V} {g : TG} {tt tt1 : TT} {wi1 : TI} {g1 : TG} {te : TE} {ws ws1 : List Nat} {ρ : L2.St} {H0 : Hp} {L : Addr} {Qe : Hp → Prop} (J : Nat → Hp → Prop) (j0 : J 0 (upd H0 L (.lst []))) (hl : ∀ i H, J i H → SqL K H a xs)
    (go : ∀ i x H, xs[i]? = some x → J i H → g x (wipe ρ ws) H fun ρ2 H2 => wipe ρ2 ws = wipe ρ ws ∧ tt ρ2 H2 fun b H3 =>
      if b = true then wi1 ρ2 H3 fun It1 H4 => ∃ W1 : Nat → Nat → Hp → Prop, (∃ m, W1 0 m H4) ∧ ∀ j k H, W1 j k H →
          (It1.stop j H ∧ J (i + 1) H) ∨ (It1.go j H ∧ ∃ Nx1 : Hp → Prop, (∀ H', Nx1 H' → ∃ k', k' < k ∧ W1 (j + 1) k' H') ∧ ∀ x H', It1.yld j H x H' → g1 x (wipe ρ2 ws1) H' fun ρ3 H5 => wipe ρ3 ws1 = wipe ρ2 ws1 ∧ tt1 ρ3 H5 fun b H6 =>
            if b = true then te ρ3 H6 fun y H7 => ∃ acc, H7 L = some (.lst acc) ∧ acc.length < sizeLine ∧ Nx1 (upd H7 L (.lst (acc ++ [y]))) else Nx1 H6)
      else J (i + 1) H3) (je : ∀ H, J xs.length H → Qe H) :
    ∃ W : Nat → Nat → Hp → Prop, (∃ m, W 0 m (upd H0 L (.lst []))) ∧ ∀ i m H, W i m H →
      ((Itl K a).stop i H ∧ Qe H) ∨ ((Itl K a).go i H ∧ ∃ Nx : Hp → Prop, (∀ H', Nx H' → ∃ m', m' < m ∧ W (i + 1) m' H') ∧ ∀ x H', (Itl K a).yld i H x H' → g x (wipe ρ ws) H' fun ρ2 H2 => wipe ρ2 ws = wipe ρ ws ∧ tt ρ2 H2 fun b H3 =>
        if b = true then wi1 ρ2 H3 fun It1 H4 => ∃ W1 : Nat → Nat → Hp → Prop, (∃ m, W1 0 m H4) ∧ ∀ j k H, W1 j k H →
          (It1.stop j H ∧ Nx H) ∨ (It1.go j H ∧ ∃ Nx1 : Hp → Prop, (∀ H', Nx1 H' → ∃ k', k' < k ∧ W1 (j + 1) k' H') ∧ ∀ x H', It1.yld j H x H' → g1 x (wipe ρ2 ws1) H' fun ρ3 H5 => wipe ρ3 ws1 = wipe ρ2 ws1 ∧ tt1 ρ3 H5 fun b H6 =>
            if b = true then te ρ3 H6 fun y H7 => ∃ acc, H7 L = some (.lst acc) ∧ acc.length < sizeLine ∧ Nx1 (upd H7 L (.lst (acc ++ [y]))) else Nx1 H6)
        else Nx H3) := by
  refine ⟨fun i m H => m + i = xs.length ∧ J i H, ⟨xs.length, rfl, j0⟩, fun i m H ⟨e, j⟩ => ?_⟩
  have hq := hl i H j
  rcases Nat.lt_or_ge i xs.length with lt | ge
  · have ex := List.getElem?_eq_getElem lt
    refine .inr ⟨⟨xs, xs[i], hq, ex⟩, J (i + 1), fun H' j' => ⟨m - 1, by omega, by omega, j'⟩, fun x H' y => ?_⟩
    obtain ⟨e1, f⟩ := y
    subst e1
    obtain rfl := Option.some.inj ((f xs hq).symm.trans ex)
    exact go i _ _ ex j
  · obtain rfl : i = xs.length := by omega
    exact .inl ⟨⟨xs, hq, Nat.le_refl _⟩, je H j⟩
def spPlans : Sp := fun vs H Q _ => ∃ many size : Nat, vs = [.int many, .int size] ∧ many ≤ 20 ∧ size ≤ 3 ∧ ∀ H' r vs', Same H H' → H' r = some (.lst vs') → Paired (PlanAt H') vs' (plansN many size) → Q (.ref r) H'
section
variable {P : Program} {w : World} {K : PySem.W.Frag} {mg : Str → Option Value} {base : Heap}
theorem ok_plans {f : Addr} {fd : FuncData} (F : Fun K "list_plans" "list_plans" s_list_plans f fd) (B : Blt mg) (zm : mg "max" = none) : FnOk P w K mg base CX0 1 f fd P_list_plans spPlans := by
  refine F.ok sc_list_plans (fun vs H Q E h => ?_) (fun cdv A outer s H vs Q E hr h => ?_)
  · obtain ⟨many, size, rfl, _⟩ := h
    rfl
  · obtain ⟨many, size, rfl, hm, hs, q⟩ := h
    have hu : (A.deeper (PyProof.Rows.envOfC "list_plans" (defScope s_list_plans) s.heap.objs.size f cdv)).units + 65 < cLine := by
      have := hr.un
      omega
    refine ⟨_, pss_cons (ps_set (i := 2) sc_list_plans.nd rfl (.inl rfl) (pe_lst (pa_cons (pe_tupF pa_nil) pa_nil)))
      (pss_cons (ps_for PassesOwn.never rfl (pi_range1 rfl B.range (pa_cons (pv 1) pa_nil)) (pg_name (i := 3) sc_list_plans.nd rfl (.inl rfl))
        (pss_one (ps_setLc2 (i := 2) (own := [("plan", 4), ("number", 5)]) (vs1 := [5]) (g := gName 4) (g1 := gName 5) (tt := tYes) (wi1 := iRng1 (tCons (tVar 0) tNil)) (tt1 := tTest (tOp (rI0 fun i j => .bl (decide (j ≤ i))) (tVar 5) (tCKw (rMaxDefT K) (tCons (tVar 4) tNil) (tCons (tC (.int 0)) tNil))))
          (te := tOp (rCatF K) (tVar 4) (tTupF (tCons (tVar 5) tNil))) (by rfl) sc_list_plans.nd rfl rfl (by rfl) (pi_list (pv 2))
          (blkOk_by (N := N_list_plans) (sc := defScope s_list_plans) (by decide +kernel)) (by intro i hi; simp at hi; simp [hi]) (fun _ _ _ _ _ => pg_name (i := 4) sc_list_plans.nd rfl (.inl rfl)) (fun _ _ _ _ _ => pts_nil)
          (fun _ _ _ _ _ => pi_range1 rfl B.range (pa_cons (pv 0) pa_nil)) (fun _ _ _ _ _ => pg_name (i := 5) sc_list_plans.nd rfl (.inl rfl))
          (fun _ _ _ _ _ => pts_one (pt_cmpR op_ge (pv 5) (pe_callBK (cr_maxDefT rfl hu) (by rfl) zm PyProof.Rows.boot_max (pa_cons (pv 4) pa_nil) (pk_cons pe_int pk_nil)) (nomark _)))
          (fun _ _ _ _ _ => pe_op op_catF (pv 4) (pe_tupF (pa_cons (pv 5) pa_nil))))))
      (pss_one (ps_ret (pv 2)))), ?_⟩
    refine ⟨(by show 0 ≤ sizeLine; decide), fun u0 o0 nu0 to0 => ⟨(by show 1 ≤ sizeLine; decide), fun r0 nr0 => ?_⟩⟩
    have s0 := same_upd (o := HO.frz o0 (.tup [])) nu0
    have s1 := same_upd (o := HO.lst [.ref u0]) nr0
    have hP0 : Paired (PlanAt (upd (upd H u0 (.frz o0 (.tup []))) r0 (.lst [.ref u0]))) [.ref u0] (plansN many 0) := .cons ⟨u0, rfl, o0, to0, s1 _ _ upd_same⟩ .nil
    have hr0 : (upd (upd H u0 (.frz o0 (.tup []))) r0 (.lst [.ref u0])) r0 = some (.lst [.ref u0]) := upd_same
    have sA := s0.trans s1
    generalize (upd (upd H u0 (.frz o0 (.tup []))) r0 (.lst [.ref u0])) = H1 at hP0 hr0 sA
    refine ⟨_, rfl, (size : Nat), rfl, by omega, by omega, ?_⟩
    refine for_range (lo := 0) (n := ((size : Nat) : Int).toNat) (fun i σ H' => ∃ (r : Addr) (y3 : Option V) (vs' : List V), σ = [some (.int many), some (.int size), some (.ref r), y3, none, none] ∧ Same H H' ∧ H' r = some (.lst vs') ∧ Paired (PlanAt H') vs' (plansN many i))
      ⟨r0, _, _, rfl, sA, hr0, hP0⟩ ?_ ?_
    · rintro i σ H2 hi ⟨r, y3, vs', rfl, s2, hr2, hP⟩
      have vl := hP.length
      have pl := plansN_len (many := many) i
      refine ⟨_, rfl, r, rfl, ⟨_, SqL.of hr2⟩, fun D nD => ?_⟩
      have nrD : r ≠ D := ne_of_none hr2 nD
      have big : ∀ j, j ≤ 3 → many ^ j ≤ 8000 := fun j hj => by
        have h1 : many ^ j ≤ 20 ^ j := Nat.pow_le_pow_left hm j
        have h2 : 20 ^ j ≤ 20 ^ 3 := Nat.pow_le_pow_right (by decide) hj
        omega
      refine lc2_lst (K := K) (a := r) (xs := vs') (fun k H' => ∃ acc, Same H2 H' ∧ H' D = some (.lst acc) ∧ Paired (PlanAt H') acc (((plansN many i).take k).flatMap (longer many)))
        ⟨[], same_upd nD, upd_same, .nil⟩ (fun k H' ⟨_, s', _⟩ => SqL.of (s' _ _ hr2)) ?_ ?_
      · rintro k x H3 hk ⟨acc, s3, hD, hA⟩
        have lt : k < (plansN many i).length := by rw [← vl]; exact (List.getElem?_eq_some_iff.mp hk).1
        have ek := List.getElem?_eq_getElem lt
        obtain ⟨v', hv', u, ev, hu2⟩ := Paired.get? (i := k) hP ek
        obtain rfl : v' = x := Option.some.inj (hv'.symm.trans hk)
        subst ev
        have hmem := List.mem_of_getElem? ek
        generalize (plansN many i)[k] = l at ek hu2 hmem
        have ll := (plansN_mem (many := many) i l hmem).1
        refine ⟨rfl, _, rfl, (many : Nat), rfl, by omega, by omega, ?_⟩
        refine in_rng (lo := 0) (n := ((many : Nat) : Int).toNat) (fun j H' => ∃ acc, Same H2 H' ∧ H' D = some (.lst acc) ∧ Paired (PlanAt H') acc (((plansN many i).take k).flatMap (longer many) ++ ((List.range j).filter fun n => decide (maxN l ≤ n)).map fun n => l ++ [n]))
          ⟨acc, s3, hD, by rw [List.range_zero, List.filter_nil, List.map_nil, List.append_nil]; exact hA⟩ ?_ ?_
        · rintro j H4 hj ⟨acc2, s4, hD4, hA4⟩
          have hu4 : FzT H4 u (nints l) := hu2.keep (fk_of s4)
          have hun : SqT K H4 u ((l.map fun (n : Nat) => (n : Int)).map V.int) := by
            have := hu4.sq (K := K)
            rw [nints_V] at this
            exact this
          rw [show (0 : Int) + (j : Int) = (j : Nat) from Int.zero_add _]
          have lim := big i (by omega)
          have l3 := big (i + 1) (by omega)
          refine ⟨rfl, _, rfl, _, rfl, ?_⟩
          dsimp only [tNil, tCons, tC]
          refine maxDef_N hun ?_
          refine ⟨_, _, rfl, rfl, _, rfl, ite2 (fun c => ?_) (fun c => ?_)⟩
          · have c2 : maxN l ≤ j := by
              have := of_decide_eq_true c
              omega
            refine ⟨_, rfl, _, rfl, (by show 1 ≤ sizeLine; decide), fun u1 o1 nu1 to1 => ?_⟩
            have sa := same_upd (o := HO.frz o1 (.tup [.int j])) nu1
            have hF1 : FzT (upd H4 u1 (.frz o1 (.tup [.int j]))) u1 [.int j] := ⟨o1, to1, upd_same⟩
            have hD5 := sa _ _ hD4
            have hu5 := hu4.keep (fk_of sa)
            have s5 := s4.trans sa
            have hA5 := PlansAt.keep (fk_of sa) hA4
            generalize (upd H4 u1 (.frz o1 (.tup [.int j]))) = H5 at hF1 hD5 hu5 s5 hA5
            have fin : ∀ (H6 : Hp) (w6 : Addr), Same H5 H6 → FzT H6 w6 (nints (l ++ [j])) → ∃ acc, H6 D = some (.lst acc) ∧ acc.length < sizeLine ∧ ∃ acc', Same H2 (upd H6 D (.lst (acc ++ [.ref w6]))) ∧ (upd H6 D (.lst (acc ++ [.ref w6]))) D = some (.lst acc') ∧
                Paired (PlanAt (upd H6 D (.lst (acc ++ [.ref w6])))) acc' (((plansN many i).take k).flatMap (longer many) ++ ((List.range (j + 1)).filter fun n => decide (maxN l ≤ n)).map fun n => l ++ [n]) := fun H6 w6 s6 f6 => by
              have hD6 := s6 _ _ hD5
              have kD := FK.lst (o := HO.lst (acc2 ++ [.ref w6])) hD6
              refine ⟨acc2, hD6, ?_, _, fun b o e => ?_, upd_same, ?_⟩
              · rw [hA4.length, List.length_append, List.length_map, sizeLine_eq]
                have a1 : (((plansN many i).take k).flatMap (longer many)).length ≤ ((plansN many i).take k).length * many := flat_le _
                have a2 : ((plansN many i).take k).length ≤ (plansN many i).length := by rw [List.length_take]; exact Nat.min_le_right _ _
                have a3 : ((plansN many i).take k).length * many ≤ 8000 * 20 := Nat.mul_le_mul (by omega) hm
                have a4 := List.length_filter_le (fun n => decide (maxN l ≤ n)) (List.range j)
                rw [List.length_range] at a4
                omega
              · rw [upd_ne (ne_of_none e nD)]
                exact s6 _ _ (s5 _ _ e)
              · rw [filter_range_succ', if_pos (decide_eq_true c2), List.map_append, ← List.append_assoc]
                exact Paired.snoc (PlansAt.keep kD (PlansAt.keep (fk_of s6) hA5)) ⟨w6, rfl, f6.keep kD⟩
            refine ⟨u, u1, nints l, [.int j], rfl, rfl, hu5.sq, hF1.sq, (fun z => by cases z), ?_, fun e => ?_, fun ne p6 o6 np6 to6 => ?_⟩
            · rw [nints_len, ll, sizeLine_eq]
              show i + 1 ≤ _
              omega
            · have el : l = [] := List.map_eq_nil_iff.mp e
              have := fin H5 u1 (.refl H5) (by rw [el]; exact hF1)
              exact this
            · exact fin _ p6 (same_upd np6) ⟨o6, to6, by rw [nints_app]; exact upd_same⟩
          · have c2 : ¬ maxN l ≤ j := fun z => c (decide_eq_true (by omega))
            refine ⟨acc2, s4, hD4, ?_⟩
            rw [filter_range_succ', if_neg (by rw [decide_eq_false c2]; exact Bool.false_ne_true), List.append_nil]
            exact hA4
        · rintro H4 ⟨acc2, s4, hD4, hA4⟩
          refine ⟨acc2, s4, hD4, ?_⟩
          rw [List.take_add_one, ek, Option.toList_some, List.flatMap_append, List.flatMap_cons, List.flatMap_nil, List.append_nil]
          exact hA4
      · rintro H3 ⟨acc, s3, hD, hA⟩
        rw [vl, List.take_length] at hA
        exact ⟨D, _, acc, rfl, s2.trans s3, hD, hA⟩
    · rintro σ H2 ⟨r, y3, vs', rfl, s2, hr2, hP⟩
      exact ⟨_, rfl, q H2 r vs' s2 hr2 hP⟩
end
abbrev s_may_prolong : Stmt := top 44
abbrev N_may_prolong : List Str := ["net", "plan", "index"]
abbrev P_may_prolong : List Str := ["net", "plan"]
theorem sc_may_prolong : FnScope N_may_prolong P_may_prolong (defScope s_may_prolong) := ⟨rfl, rfl, rfl, by decide +kernel, rfl, by decide +kernel, by decide +kernel⟩
abbrev s_prolonged : Stmt := top 45
abbrev N_prolonged : List Str := ["net", "plan", "orders", "index", "source", "target", "first", "days", "delay"]
abbrev P_prolonged : List Str := ["net", "plan"]
theorem sc_prolonged : FnScope N_prolonged P_prolonged (defScope s_prolonged) := ⟨rfl, rfl, rfl, by decide +kernel, rfl, by decide +kernel, by decide +kernel⟩
abbrev s_plan_days : Stmt := top 41
abbrev N_plan_days : List Str := ["net", "limit", "size", "plan"]
abbrev P_plan_days : List Str := ["net", "limit"]
theorem sc_plan_days : FnScope N_plan_days P_plan_days (defScope s_plan_days) := ⟨rfl, rfl, rfl, by decide +kernel, rfl, by decide +kernel, by decide +kernel⟩
/-! ### may_prolong, prolonged, plan_days -/
def okB (p : Nat) (os : List Od) (l : List Nat) (k : Nat) : Bool := match os[k]? with
  | some o => decide (o.n + l.count k ≤ p)
  | none => false
theorem mayB_all {p : Nat} {os : List Od} {l : List Nat} : ((l.map (okB p os l)).all id) = mayB p os l := by
  rw [List.all_map]
  rfl
section
variable {P : Program} {w : World} {K : PySem.W.Frag} {mg : Str → Option Value} {base : Heap}
theorem ok_may {f C : Addr} {fd : FuncData} (F : Fun K "may_prolong" "may_prolong" s_may_prolong f fd) (B : Blt mg) (T : NetT K C) : FnOk P w K mg base CX0 1 f fd P_may_prolong (spMay C) := by
  refine F.ok sc_may_prolong (fun vs H Q E h => ?_) (fun cdv A outer s H vs Q E hr h => ?_)
  · obtain ⟨x, t, v, p, h, os, l, F, rfl, _⟩ := h
    rfl
  · obtain ⟨x, t, v, p, h, os, l, F, rfl, ⟨u, rfl, hu0⟩, hl, hk, Nt, nok, q⟩ := h
    have hu : (A.deeper (PyProof.Rows.envOfC "may_prolong" (defScope s_may_prolong) s.heap.objs.size f cdv)).units + 65 < cLine := by
      have := hr.un
      omega
    refine ⟨_, pss_one (ps_ret (pe_callB (cr_all rfl) (by rfl) B.all PyProof.Rows.boot_all (pa_cons (pe_lc (own := [("index", 2)]) (g := gName 2) (tt := tYes)
        (te := tOp (rI0 fun i j => .bl (decide (i ≤ j))) (tOp (rI0 fun i j => .int (i + j)) (tOp (rIxT K) (tOp (rIxT K) (tFld K (tVar 0) "orders") (tVar 2)) (tC (.int 3))) (tBMF (rCntT K) (tVar 1) (tCons (tVar 2) tNil))) (tFld K (tVar 0) "period")) (by rfl) sc_may_prolong.nd (pi_tup (pv 1))
        (blkOk_by (N := N_may_prolong) (sc := defScope s_may_prolong) (by decide +kernel)) (fun _ _ _ _ _ => pg_name (i := 2) sc_may_prolong.nd rfl (.inl rfl)) (fun _ _ _ _ _ => pts_nil)
        (fun _ _ _ _ _ => pe_cmpR op_le (pe_op op_add (pe_ix ix_tup (pe_ix ix_tup (pe_fld (pv 0) rfl) (pv 2) (fun _ _ => rfl)) pe_int (fun _ _ => rfl)) (pe_bmF PySem.F.plainAttrs_tuple PySem.F.slot_tuple_count PySem.F.type_tuple_count (mt_countT hu) (pv 1) (pa_cons (pv 2) pa_nil))) (pe_fld (pv 0) rfl) (nomark _))) pa_nil))), ?_⟩
    obtain ⟨dx, fl, as, _, hx, ⟨ts, ht, hP⟩, _⟩ := id Nt
    have hPl := hP.length
    refine ⟨_, rfl, u, rfl, ⟨_, hu0.sq⟩, fun D nD => ?_⟩
    refine lc_tup (K := K) (a := u) (xs := nints l) (fun i H' => Same H H' ∧ H' D = some (.lst (((l.take i).map (okB p os l)).map V.bl))) ⟨same_upd nD, upd_same⟩ (fun i H' _ ⟨s', _⟩ => (hu0.keep (fk_of s')).sq) ?_ ?_
    · rintro i v H1 hi ⟨s1, hD⟩
      obtain ⟨k, ek, rfl⟩ := nints_get hi
      have lk := hk k (List.mem_of_getElem? ek)
      have eo := List.getElem?_eq_getElem lk
      obtain ⟨w', hw, u2, rfl, hu2⟩ := Paired.get? (i := k) hP eo
      have hx1 := s1 _ _ hx
      have hu1 := hu0.keep (fk_of s1)
      refine ⟨rfl, _, rfl, x, C, dx, _, _, rfl, hx1, T.cl, T.nO, nf_or, _, rfl, t, ts, k, _, rfl, rfl, SqT.of (s1 _ _ ht), atI_nat (j := k) hw, u2, _, 3, _, rfl, rfl, SqT.of (s1 _ _ hu2), atI_nat (j := 3) rfl, ?_⟩
      refine ⟨_, rfl, ⟨u, _, rfl, hu1⟩, _, rfl, u, nints l, .int k, .int k, _, rfl, rfl, hu1.sq, nints_dps l, .int _, ints_plain l, rfl, by show 0 ≤ 60; decide, ?_⟩
      rw [cnt_ints]
      refine ⟨_, _, rfl, rfl, _, rfl, x, C, dx, _, _, rfl, hx1, T.cl, T.nP, nf_pe, _, _, rfl, rfl, _, hD, ?_, same_updN s1 nD, ?_⟩
      · rw [List.length_map, List.length_map, List.length_take]
        exact small1000 (by have := (List.getElem?_eq_some_iff.mp ek).1; omega)
      · rw [upd_same, List.take_add_one, ek, List.map_append, List.map_append]
        have e : okB p os l k = decide (((os[k].n : Int) + ((l.count k : Nat) : Int)) ≤ (p : Int)) := by
          unfold okB
          rw [eo]
          show decide (os[k].n + l.count k ≤ p) = _
          by_cases c : os[k].n + l.count k ≤ p
          · rw [decide_eq_true c, decide_eq_true (by omega)]
          · rw [decide_eq_false c, decide_eq_false (by omega)]
        show some (HO.lst (_ ++ [V.bl (decide (((os[k].n : Int) + ((l.count k : Nat) : Int)) ≤ (p : Int)))])) = some (HO.lst (_ ++ [V.bl (okB p os l k)]))
        rw [e]
    · rintro H1 ⟨s1, hD⟩
      rw [nints_len, List.take_length] at hD
      refine ⟨D, _, rfl, SqL.of hD, ?_⟩
      rw [mayB_all]
      exact q H1 s1
theorem ok_prolonged {f C fI : Addr} {fd fdI : FuncData} (F : Fun K "prolonged" "prolonged" s_prolonged f fd) (B : Blt mg) (T : NetT K C) (M : Mk K C fI) (gC : mg "Net" = some (.ref C)) (GI : FnOk P w K mg base CX0 5 fI fdI P_Net_init (spInit C)) (bI : Binds K fdI P_Net_init []) : FnOk P w K mg base CX0 7 f fd P_prolonged (spProlonged C) := by
  refine F.ok sc_prolonged (fun vs H Q E h => ?_) (fun cdv A outer s H vs Q E hr h => ?_)
  · obtain ⟨x, t, v, p, h, os, l, F, rfl, _⟩ := h
    rfl
  · obtain ⟨x, t, v, p, h, os, l, F, rfl, ⟨u, rfl, hu0⟩, Nt, nok, nok', q⟩ := h
    have hu : (A.deeper (PyProof.Rows.envOfC "prolonged" (defScope s_prolonged) s.heap.objs.size f cdv)).units + 65 < cLine := by
      have := hr.un
      omega
    refine ⟨_, pss_cons (ps_set (i := 2) sc_prolonged.nd rfl (.inl rfl) (pe_lst pa_nil))
      (pss_cons (ps_for PassesOwn.never rfl (pi_enumT (by rfl) B.enum (pa_cons (pe_fld (pv 0) rfl) pa_nil)) (pg_tup (by rfl) (pgs_cons (pg_name (i := 3) sc_prolonged.nd rfl (.inl rfl)) (pgs_cons (pg_tup (by rfl) (pgs_cons (pg_name (i := 4) sc_prolonged.nd rfl (.inl rfl)) (pgs_cons (pg_name (i := 5) sc_prolonged.nd rfl (.inl rfl)) (pgs_cons (pg_name (i := 6) sc_prolonged.nd rfl (.inl rfl)) (pgs_cons (pg_name (i := 7) sc_prolonged.nd rfl (.inl rfl)) (pgs_cons (pg_name (i := 8) sc_prolonged.nd rfl (.inl rfl)) pgs_nil)))))) pgs_nil)))
        (pss_one (ps_expr (pe_bm PySem.F.plainAttrs_list PySem.F.slot_list_append PySem.F.type_list_append mt_append (pv 2) (pa_cons (pe_tup (pa_cons (pv 4) (pa_cons (pv 5) (pa_cons (pv 6) (pa_cons (pe_op op_add (pv 7) (pe_bmF PySem.F.plainAttrs_tuple PySem.F.slot_tuple_count PySem.F.type_tuple_count (mt_countT hu) (pv 1) (pa_cons (pv 3) pa_nil))) (pa_cons (pv 8) pa_nil)))))) pa_nil)))))
      (pss_one (ps_ret (pe_make M GI hr (by rfl) gC bI .nil pass0 (pa_cons (pe_fld (pv 0) rfl) (pa_cons (pe_fld (pv 0) rfl) (pa_cons (pe_callTy call_tuple_of (by rfl) B.tuple (by decide +kernel) (pa_cons (pv 2) pa_nil)) pa_nil))))))), ?_⟩
    obtain ⟨dx, fl, as, _, hx, ⟨ts, ht, hP⟩, _⟩ := id Nt
    have hPl := hP.length
    have ol := nok.len
    refine ⟨(by show 0 ≤ sizeLine; decide), fun L nL => ?_⟩
    have sL := same_upd (o := HO.lst []) nL
    refine ⟨_, rfl, x, C, dx, _, _, rfl, sL _ _ hx, T.cl, T.nO, nf_or, t, ts, rfl, sL _ _ ht, ?_⟩
    refine for_enumT (K := K) (a := t) (xs := ts) (fun i σ H' => (∃ y3 y4 y5 y6 y7 y8, σ = [some (.ref x), some (.ref u), some (.ref L), y3, y4, y5, y6, y7, y8]) ∧ Same H H' ∧ ∃ us, H' L = some (.lst us) ∧ Paired (OrdAt H') us (prol l (os.take i)))
      ⟨⟨_, _, _, _, _, _, rfl⟩, sL, [], upd_same, by rw [List.take_zero]; exact .nil⟩ (fun i σ H' ⟨_, s', _⟩ => s' _ _ ht) ?_ ?_
    · rintro i w' σ H1 T0 hi ⟨⟨y3, y4, y5, y6, y7, y8, rfl⟩, s1, us, hL, hU⟩ nT0
      have lt : i < os.length := by rw [← hPl]; exact (List.getElem?_eq_some_iff.mp hi).1
      have eo := List.getElem?_eq_getElem lt
      obtain ⟨w2, hw, u2, e2, hu2⟩ := Paired.get? (i := i) hP eo
      obtain rfl : w2 = w' := Option.some.inj (hw.symm.trans hi)
      subst e2
      generalize os[i] = o at eo hu2
      have s2 := same_upd (o := HO.tup [.int (i : Nat), .ref u2]) nT0
      have hT0 : (upd H1 T0 (.tup [.int (i : Nat), .ref u2])) T0 = some (.tup [.int (i : Nat), .ref u2]) := upd_same
      have hL2 := s2 _ _ hL
      have s12 := s1.trans s2
      have hU2 := OrdsAt.keep (tk_of s2) hU
      generalize (upd H1 T0 (.tup [.int (i : Nat), .ref u2])) = H2 at hT0 hL2 s12 hU2
      have hu3 := hu0.keep (fk_of s12)
      refine ⟨T0, _, rfl, SqT.of hT0, rfl, _, _, rfl, _, _, rfl, ?_⟩
      refine ⟨u2, _, rfl, SqT.of (s12 _ _ hu2), rfl, _, _, rfl, _, _, rfl, _, _, rfl, _, _, rfl, _, _, rfl, rfl, rfl, ?_⟩
      refine ⟨_, rfl, .inl ⟨rfl, _, SqL.of hL2⟩, _, rfl, _, rfl, _, rfl, _, rfl, _, rfl, ⟨u, _, rfl, hu3⟩, _, rfl, u, nints l, .int i, .int i, _, rfl, rfl, hu3.sq, nints_dps l, .int _, ints_plain l, rfl, by show 0 ≤ 60; decide, ?_⟩
      rw [cnt_ints]
      refine ⟨_, _, rfl, rfl, _, rfl, (by show 5 ≤ sizeLine; decide), fun o1 no1 => ?_⟩
      have s3 := same_upd (o := HO.tup [.int o.s, .int o.t, .int o.f, .int ((o.n : Int) + ((l.count i : Nat) : Int)), .int o.e]) no1
      have hL3 := s3 _ _ hL2
      have n1L : o1 ≠ L := (ne_of_none hL2 no1).symm
      have kL := TupKeep.lst (o := HO.lst (us ++ [.ref o1])) hL3
      refine ⟨L, us, _, rfl, rfl, hL3, ?_, ⟨_, _, _, _, _, _, rfl⟩, fun b z e => ?_, _, upd_same, ?_⟩
      · rw [hU.length, prol_len, List.length_take]
        exact small1000 (by omega)
      · rw [upd_ne (ne_of_none e nL)]
        exact s3 _ _ (s12 _ _ e)
      · rw [prol_take eo]
        refine Paired.snoc (OrdsAt.keep kL (OrdsAt.keep (tk_of s3) hU2)) ⟨o1, rfl, kL _ _ ?_⟩
        rw [upd_same]
        show some (HO.tup [V.int o.s, V.int o.t, V.int o.f, V.int ((o.n : Int) + ((l.count i : Nat) : Int)), V.int o.e]) = some (HO.tup [V.int o.s, V.int o.t, V.int o.f, V.int ((o.n + l.count i : Nat) : Int), V.int o.e])
        rw [Int.natCast_add]
    · rintro σ H1 ⟨⟨y3, y4, y5, y6, y7, y8, rfl⟩, s1, us, hL, hU⟩
      rw [hPl, List.take_length] at hU
      have hx1 := s1 _ _ hx
      refine ⟨_, rfl, x, C, dx, _, _, rfl, hx1, T.cl, T.nP, nf_pe, _, rfl, x, C, dx, _, _, rfl, hx1, T.cl, T.nH, nf_ho, _, rfl, L, us, rfl, .inl ⟨SqL.of hL, fun tt ntt => ?_⟩⟩
      have s3 := same_upd (o := HO.tup us) ntt
      have hO : OrdsTup (upd H1 tt (.tup us)) tt (prol l os) := ⟨us, upd_same, OrdsAt.keep (tk_of s3) hU⟩
      have sB := s1.trans s3
      generalize (upd H1 tt (.tup us)) = H3 at sB hO
      intro x' dx' nx ndx nex
      have s0 : Same H3 (upd (upd H3 dx' (.own x')) x' (.ins C dx' [])) := same_updN (same_upd ndx) nx
      exact ⟨x', dx', tt, p, h, prol l os, H3, rfl, nok', hO.keep (tk_of s0), s0, nx, upd_same, fun H' F' s9 nF N => ⟨rfl, q H' x' tt F' (sB.trans s9) N⟩⟩
def goodB (p h : Nat) (os : List Od) (l : List Nat) : Bool := mayB p os l && decide (chN p h (prol l os) = 0)
/-- all plans of at most so many days, the shortest first -/
def plansTo (many lim : Nat) : List (List Nat) := (List.range (lim + 1)).flatMap (plansN many)
def planOf (p h : Nat) (os : List Od) (lim : Nat) : Option (List Nat) := (plansTo os.length lim).find? (goodB p h os)
def spPlanDays (C : Addr) : Sp := fun vs H Q _ => ∃ (x t : Addr) (p h lim : Nat) (os : List Od) (F : List Addr), vs = [.ref x, .int lim] ∧ NetAt C H x p h os t F ∧ NetOk p h os ∧ lim ≤ 3 ∧
  ∀ H' v, Same H H' → OptPlan H' v (planOf p h os lim) → Q v H'
theorem find_none_app {α : Type} {f : α → Bool} {l r : List α} (h : ∀ a ∈ l, f a = false) : (l ++ r).find? f = r.find? f := by
  rw [List.find?_append, List.find?_eq_none.mpr (fun a ha => by rw [h a ha]; exact Bool.false_ne_true)]
  rfl
theorem plansTo_at {many lim sz k : Nat} {l : List Nat} {f : List Nat → Bool} (hs : sz ≤ lim) (hk : (plansN many sz)[k]? = some l) (h1 : ∀ a ∈ (List.range sz).flatMap (plansN many), f a = false) (h2 : ∀ a ∈ (plansN many sz).take k, f a = false) (h3 : f l = true) : (plansTo many lim).find? f = some l := by
  unfold plansTo
  obtain ⟨m, rfl⟩ : ∃ m, lim = sz + m := ⟨lim - sz, by omega⟩
  rw [show sz + m + 1 = sz + (m + 1) by omega, List.range_add, List.flatMap_append, find_none_app h1]
  rw [List.range_succ_eq_map, List.map_cons, List.flatMap_cons, Nat.add_zero]
  have lt := (List.getElem?_eq_some_iff.mp hk).1
  have e : plansN many sz = (plansN many sz).take k ++ l :: (plansN many sz).drop (k + 1) := by
    have e1 := List.take_append_drop k (plansN many sz)
    rw [List.drop_eq_getElem_cons lt] at e1
    rw [(List.getElem?_eq_some_iff.mp hk).2] at e1
    exact e1.symm
  rw [e, List.append_assoc, find_none_app h2, List.cons_append, List.find?_cons, h3]
theorem ok_plan_days {f C : Addr} {fd : FuncData} (F : Fun K "plan_days" "plan_days" s_plan_days f fd) (B : Blt mg) (T : NetT K C) (hL : ∃ t, mg "HIGHEST_LIMIT" = some (.int 3 t)) (DW : Df P w K mg base "is_within" 2 P_is_within (spWithin K)) (DP : Df P w K mg base "list_plans" 1 P_list_plans spPlans)
    (DM : Df P w K mg base "may_prolong" 1 P_may_prolong (spMay C)) (DC : Df P w K mg base "count_chasing" 5 P_count_chasing (spChasing C)) (DR : Df P w K mg base "prolonged" 7 P_prolonged (spProlonged C)) : FnOk P w K mg base CX0 8 f fd P_plan_days (spPlanDays C) := by
  obtain ⟨fW, fdW, gW, kW, bW, GW⟩ := DW
  obtain ⟨fP, fdP, gP, kP, bP, GP⟩ := DP
  obtain ⟨fM, fdM, gM, kM, bM, GM⟩ := DM
  obtain ⟨fC, fdC, gC, kC, bC, GC⟩ := DC
  obtain ⟨fR, fdR, gR, kR, bR, GR⟩ := DR
  obtain ⟨tk, hL⟩ := hL
  refine F.ok sc_plan_days (fun vs H Q E h => ?_) (fun cdv A outer s H vs Q E hr h => ?_)
  · obtain ⟨x, t, p, h, lim, os, F, rfl, _⟩ := h
    rfl
  · obtain ⟨x, t, p, h, lim, os, F, rfl, Nt, nok, hlim, q⟩ := h
    have hr1 : Room 1 _ := hr.mono (by decide)
    have hr2 : Room 2 _ := hr.mono (by decide)
    have hr5 : Room 5 _ := hr.mono (by decide)
    refine ⟨_, pss_cons (ps_if (pt_not (pt_val (pe_call GW hr2 (by rfl) gW kW bW .nil pass0 (pa_cons (pv 1) (pa_cons pe_int (pa_cons (pe_glob (v := .int 3) rfl hL ⟨_, rfl⟩) pa_nil)))))) (pss_one ps_never) pss_nil)
      (pss_cons (ps_for PassesOwn.never rfl (pi_range1 rfl B.range (pa_cons (pe_op op_add (pv 1) pe_int) pa_nil)) (pg_name (i := 2) sc_plan_days.nd rfl (.inl rfl))
        (pss_one (ps_for PassesOwn.never rfl (pi_list (pe_call GP hr1 (by rfl) gP kP bP .nil pass0 (pa_cons (pe_callB call_len_seq (by rfl) B.len PySem.boot_len (pa_cons (pe_fld (pv 0) rfl) pa_nil)) (pa_cons (pv 2) pa_nil)))) (pg_name (i := 3) sc_plan_days.nd rfl (.inl rfl))
          (pss_one (ps_if (PW.pt (pw_and (pt_val (pe_call GM hr1 (by rfl) gM kM bM .nil pass0 (pa_cons (pv 0) (pa_cons (pv 3) pa_nil))))
              (pw_and1 (pt_cmpR op_eq (pe_call GC hr5 (by rfl) gC kC bC .nil pass0 (pa_cons (pe_call GR hr (by rfl) gR kR bR .nil pass0 (pa_cons (pv 0) (pa_cons (pv 3) pa_nil))) pa_nil)) pe_int (nomark _)))))
            (pss_one (ps_ret (pv 3))) pss_nil)))))
      (pss_one (ps_ret pe_non))), ?_⟩
    obtain ⟨dx, fl, as, _, hx, ⟨ts, ht, hP⟩, _⟩ := id Nt
    have hPl := hP.length
    have ol := nok.len
    refine ⟨_, rfl, .int lim, 0, 3, rfl, .int, _, rfl, ?_⟩
    rw [show withinB (.int (lim : Nat)) 0 3 = true from within_nat (lo := 0) (hi := 3) (Nat.zero_le _) hlim]
    refine iteF ⟨_, rfl, _, _, rfl, rfl, ((lim + 1 : Nat) : Int), rfl, by omega, by omega, ?_⟩
    refine for_range (lo := 0) (n := ((lim + 1 : Nat) : Int).toNat) (fun i σ H' => (∃ y2 y3, σ = [some (.ref x), some (.int lim), y2, y3]) ∧ Same H H' ∧ ∀ l ∈ (List.range i).flatMap (plansN os.length), goodB p h os l = false)
      ⟨⟨_, _, rfl⟩, .refl H, fun l hl => by cases hl⟩ ?_ ?_
    · rintro sz σ H1 hsz ⟨⟨y2, y3, rfl⟩, s1, hno⟩
      have hsz2 : sz ≤ lim := by omega
      rw [show (0 : Int) + (sz : Int) = (sz : Nat) from Int.zero_add _]
      refine ⟨_, rfl, x, C, dx, _, _, rfl, s1 _ _ hx, T.cl, T.nO, nf_or, t, ts, rfl, .inr (SqT.of (s1 _ _ ht)), _, rfl, os.length, sz, by rw [hPl]; rfl, ol, by omega, fun H2 r vs' s2 hr2 hV => ?_⟩
      have s12 := s1.trans s2
      have vl := hV.length
      refine ⟨r, rfl, ⟨_, SqL.of hr2⟩, ?_⟩
      refine for_list (K := K) (a := r) (xs := vs') (fun i σ H' => (∃ y3, σ = [some (.ref x), some (.int lim), some (.int sz), y3]) ∧ Same H2 H' ∧ ∀ l ∈ (plansN os.length sz).take i, goodB p h os l = false)
        ⟨⟨_, rfl⟩, .refl H2, fun l hl => by rw [List.take_zero] at hl; cases hl⟩ (fun i σ H' _ ⟨_, s', _⟩ => SqL.of (s' _ _ hr2)) ?_ ?_
      · rintro k v σ H3 hk ⟨⟨y3', rfl⟩, s3, hno3⟩
        have lt : k < (plansN os.length sz).length := by rw [← vl]; exact (List.getElem?_eq_some_iff.mp hk).1
        have ek := List.getElem?_eq_getElem lt
        obtain ⟨v', hv', hpl⟩ := Paired.get? (i := k) hV ek
        obtain rfl : v' = v := Option.some.inj (hv'.symm.trans hk)
        have hmem := List.mem_of_getElem? ek
        generalize (plansN os.length sz)[k] = l at ek hpl hmem
        obtain ⟨ll, lm⟩ := plansN_mem sz l hmem
        have s13 := s12.trans s3
        have hpl3 := hpl.keep (fk_of s3)
        refine ⟨_, rfl, _, rfl, x, t, v', p, h, os, l, F, rfl, hpl3, by omega, lm, Nt.same s13, nok, fun H4 s4 => ⟨_, rfl, ite2 (fun m => ?_) (fun m => ?_)⟩⟩
        · have hpl4 := hpl3.keep (fk_of s4)
          refine ⟨_, rfl, _, rfl, x, t, v', p, h, os, l, F, rfl, hpl4, Nt.same (s13.trans s4), nok, prol_ok nok m, fun H5 x' t' F' s5 N5 => ?_⟩
          refine ⟨x', t', p, h, prol l os, F', rfl, N5, prol_ok nok m, fun H6 s6 => ⟨rfl, _, rfl, ite2 (fun c => ?_) (fun c => ?_)⟩⟩
          · refine ⟨_, rfl, q H6 v' (s13.trans (s4.trans (s5.trans s6))) ?_⟩
            have c2 : chN p h (prol l os) = 0 := by
              have := V.int.inj (of_decide_eq_true c)
              omega
            have g : goodB p h os l = true := by
              unfold goodB
              rw [m, decide_eq_true c2]
              rfl
            unfold planOf
            rw [plansTo_at hsz2 ek hno hno3 g]
            exact hpl4.keep (fk_of (s5.trans s6))
          · refine ⟨⟨_, rfl⟩, s3.trans (s4.trans (s5.trans s6)), fun l2 hl2 => ?_⟩
            rw [List.take_add_one, ek] at hl2
            rcases List.mem_append.mp hl2 with z | z
            · exact hno3 l2 z
            · rw [List.mem_singleton.mp z]
              unfold goodB
              rw [m, decide_eq_false (fun z2 => c (decide_eq_true (by rw [z2]; rfl)))]
              rfl
        · refine ⟨⟨_, rfl⟩, s3.trans s4, fun l2 hl2 => ?_⟩
          rw [List.take_add_one, ek] at hl2
          rcases List.mem_append.mp hl2 with z | z
          · exact hno3 l2 z
          · rw [List.mem_singleton.mp z]
            unfold goodB
            rw [Bool.eq_false_iff.mpr m]
            rfl
      · rintro σ H3 ⟨⟨y3', rfl⟩, s3, hno3⟩
        rw [vl, List.take_length] at hno3
        refine ⟨⟨_, _, rfl⟩, s12.trans s3, fun l hl => ?_⟩
        rw [List.range_succ, List.flatMap_append] at hl
        rcases List.mem_append.mp hl with z | z
        · exact hno l z
        · rw [List.flatMap_cons, List.flatMap_nil, List.append_nil] at z
          exact hno3 l z
    · rintro σ H1 ⟨⟨y2, y3, rfl⟩, s1, hno⟩
      refine q H1 .non s1 ?_
      have e : planOf p h os lim = none := by
        unfold planOf plansTo
        exact List.find?_eq_none.mpr fun l hl => by
          rw [hno l hl]
          exact Bool.false_ne_true
      rw [e]
      rfl
end
/-! ### how many letters chase, house by house -/
def chTo (p h : Nat) (os : List Od) (i : Nat) : Nat := (((List.range i).flatMap fun a => (List.range p).map fun d => (a, d)).filter fun s => (dst p h os s).isNone).length
theorem chTo_succ {p h i : Nat} {os : List Od} : chTo p h os (i + 1) = chTo p h os i + ((List.range p).map fun d => dst p h os (i, d)).countP (·.isNone) := by
  unfold chTo
  rw [lets_row, List.filter_append, List.length_append]
  congr 1
  rw [← List.countP_eq_length_filter, List.countP_map, List.countP_map]
  rfl
theorem chTo_le {p h i : Nat} {os : List Od} : chTo p h os i ≤ i * p := by
  unfold chTo
  refine Nat.le_trans (List.length_filter_le _ _) ?_
  have := rows_len (p := p) (i := i) (j := 0)
  rw [List.range_zero, List.map_nil, List.append_nil] at this
  omega
/-! ### words and numbers -/
def digB (w : Str) : Bool := Txt.isascii w && Txt.isdigit w
def numB (w : Str) : Bool := digB w && (decide (w = "0") || (decide (w.length ≤ 3) && !decide (w.cps.toList.head? = some 48)))
/-- a word, and the number that it is, if it is one -/
structure Wk (w : Str) (v : Option Nat) : Prop where
  num : numB w = v.isSome
  int : ∀ n, v = some n → PySem.intText? w = some (n : Int)
  len : w.length ≤ 640
/-! ### numbers as texts -/
def nT (n : Nat) : Str := Str.ofString (toString (n : Int))
def nTok (n : Nat) : Bool := numB (nT n) && decide (PySem.intText? (nT n) = some (n : Int)) && decide ((nT n).length ≤ 2) && (nT n).cps.all (fun c => decide (48 ≤ c ∧ c ≤ 57))
theorem nTok_all : (List.range 31).all nTok = true := by decide +kernel
theorem nT_ok {n : Nat} (h : n ≤ 30) : numB (nT n) = true ∧ PySem.intText? (nT n) = some (n : Int) ∧ (nT n).length ≤ 2 ∧ ∀ c ∈ (nT n).cps.toList, 48 ≤ c ∧ c ≤ 57 := by
  have h1 := List.all_eq_true.mp nTok_all n (List.mem_range.mpr (by omega))
  unfold nTok at h1
  rw [Bool.and_eq_true, Bool.and_eq_true, Bool.and_eq_true] at h1
  obtain ⟨⟨⟨a, b⟩, c⟩, d⟩ := h1
  refine ⟨a, of_decide_eq_true b, of_decide_eq_true c, fun x hx => ?_⟩
  have := Array.all_eq_true_iff_forall_mem.mp d x (Array.mem_toList_iff.mp hx)
  exact of_decide_eq_true this
/-! ### texts of nets: plain mathematics -/
theorem mem_joinL {S : List Nat} {x : Nat} : ∀ {parts : List (List Nat)}, x ∈ TL.joinL S parts → x ∈ S ∨ ∃ p ∈ parts, x ∈ p
  | [], h => by cases h
  | [p], h => .inr ⟨p, List.mem_singleton.mpr rfl, h⟩
  | p :: q :: r, h => by
    rcases List.mem_append.mp (show x ∈ p ++ (S ++ TL.joinL S (q :: r)) from h) with h | h
    · exact .inr ⟨p, List.mem_cons_self, h⟩
    · rcases List.mem_append.mp h with h | h
      · exact .inl h
      · rcases mem_joinL h with h | ⟨z, hz, h⟩
        · exact .inl h
        · exact .inr ⟨z, List.mem_cons_of_mem _ hz, h⟩
theorem mem_join {y : Str} {x : Nat} {parts : List Str} (h : x ∈ TL.tl (Txt.join y parts)) : x ∈ TL.tl y ∨ ∃ p ∈ parts, x ∈ TL.tl p := by
  rw [TL.join_eq, TL.tl_join] at h
  rcases mem_joinL h with h | ⟨z, hz, h⟩
  · exact .inl h
  · obtain ⟨p, hp, rfl⟩ := List.mem_map.mp hz
    exact .inr ⟨p, hp, h⟩
theorem len_joinL {S : List Nat} : ∀ parts : List (List Nat), (TL.joinL S parts).length ≤ (parts.map List.length).sum + parts.length * S.length
  | [] => Nat.zero_le _
  | [p] => by
    show p.length ≤ _
    simp
  | p :: q :: r => by
    have ih := len_joinL (S := S) (q :: r)
    show (p ++ (S ++ TL.joinL S (q :: r))).length ≤ _
    rw [List.length_append, List.length_append, List.map_cons, List.sum_cons, List.length_cons, Nat.succ_mul]
    omega
theorem len_join {y : Str} (parts : List Str) : (Txt.join y parts).length ≤ (parts.map (·.length)).sum + parts.length * y.length := by
  have h := len_joinL (S := TL.tl y) (parts.map TL.tl)
  rw [TL.len_tl, TL.join_eq, TL.tl_join, TL.len_tl y]
  rw [List.map_map, List.length_map] at h
  exact h
def wordsO (o : Od) : List Str := [nT o.s, nT o.t, nT o.f, nT o.n, nT o.e]
def lineNet (p h : Nat) : Str := Txt.join " " [("net" : Str), nT p, nT h]
def lineOrd (o : Od) : Str := Txt.join " " (("order" : Str) :: wordsO o)
def linesOf (p h : Nat) (os : List Od) : List Str := lineNet p h :: os.map lineOrd
def textOf (p h : Nat) (os : List Od) : Str := Txt.join "\n" (linesOf p h os)
/-- a word of digits or letters -/
def Plain (w : Str) : Prop := ∀ c ∈ TL.tl w, 33 ≤ c
theorem nT_plain {n : Nat} (h : n ≤ 30) : Plain (nT n) := fun c hc => by
  have := (nT_ok h).2.2.2 c hc
  omega
theorem net_plain : Plain "net" := by
  unfold Plain
  decide +kernel
theorem order_plain : Plain "order" := by
  unfold Plain
  decide +kernel
theorem od_le {p h : Nat} {os : List Od} {o : Od} (k : NetOk p h os) (ho : o ∈ os) : o.s ≤ 30 ∧ o.t ≤ 30 ∧ o.f ≤ 30 ∧ o.n ≤ 30 ∧ o.e ≤ 30 := by
  have a := k.ok o ho
  have := a.s; have := a.t; have := a.f; have := a.n; have := a.e; have := k.p30; have := k.h10
  omega
theorem wordsO_plain {p h : Nat} {os : List Od} {o : Od} (k : NetOk p h os) (ho : o ∈ os) : ∀ w ∈ wordsO o, Plain w := by
  obtain ⟨h1, h2, h3, h4, h5⟩ := od_le k ho
  intro w hw
  unfold wordsO at hw
  simp only [List.mem_cons, List.not_mem_nil, or_false] at hw
  rcases hw with rfl | rfl | rfl | rfl | rfl
  · exact nT_plain h1
  · exact nT_plain h2
  · exact nT_plain h3
  · exact nT_plain h4
  · exact nT_plain h5
theorem split_words {ws : List Str} (hne : ws ≠ []) (h : ∀ w ∈ ws, Plain w) : Txt.split (Txt.join " " ws) " " = ws :=
  TL.split_join (s := 32) (S := []) (by decide +kernel) (by decide +kernel) hne fun w hw hc => by
    have := h w hw 32 hc
    omega
theorem line_free {ws : List Str} (h : ∀ w ∈ ws, Plain w) : 10 ∉ TL.tl (Txt.join " " ws) := fun hc => by
  rcases mem_join hc with h1 | ⟨w, hw, h1⟩
  · have : TL.tl " " = [32] := by decide +kernel
    rw [this] at h1
    simp at h1
  · have := h w hw 10 h1
    omega
theorem split_lines {ls : List Str} (hne : ls ≠ []) (h : ∀ l ∈ ls, 10 ∉ TL.tl l) : Txt.split (Txt.join "\n" ls) "\n" = ls :=
  TL.split_join (s := 10) (S := []) (by decide +kernel) (by decide +kernel) hne h
theorem split_net {p h : Nat} (hp : p ≤ 30) (hh : h ≤ 30) : Txt.split (lineNet p h) " " = [("net" : Str), nT p, nT h] := split_words (by simp) fun w hw => by
  simp only [List.mem_cons, List.not_mem_nil, or_false] at hw
  rcases hw with rfl | rfl | rfl
  · exact net_plain
  · exact nT_plain hp
  · exact nT_plain hh
theorem split_ord {p h : Nat} {os : List Od} {o : Od} (k : NetOk p h os) (ho : o ∈ os) : Txt.split (lineOrd o) " " = ("order" : Str) :: wordsO o := split_words (by simp) fun w hw => by
  rcases List.mem_cons.mp hw with rfl | hw
  · exact order_plain
  · exact wordsO_plain k ho w hw
theorem split_text {p h : Nat} {os : List Od} (k : NetOk p h os) : Txt.split (textOf p h os) "\n" = linesOf p h os := split_lines (by unfold linesOf; simp) fun l hl => by
  have := k.p30; have := k.h10
  rcases List.mem_cons.mp hl with rfl | hl
  · refine line_free fun w hw => ?_
    simp only [List.mem_cons, List.not_mem_nil, or_false] at hw
    rcases hw with rfl | rfl | rfl
    · exact net_plain
    · exact nT_plain (by omega)
    · exact nT_plain (by omega)
  · obtain ⟨o, ho, rfl⟩ := List.mem_map.mp hl
    refine line_free fun w hw => ?_
    rcases List.mem_cons.mp hw with rfl | hw
    · exact order_plain
    · exact wordsO_plain k ho w hw
theorem len_net {p h : Nat} (hp : p ≤ 30) (hh : h ≤ 30) : (lineNet p h).length ≤ 20 := by
  refine Nat.le_trans (len_join _) ?_
  have h1 := (nT_ok hp).2.2.1
  have h2 := (nT_ok hh).2.2.1
  have h3 : ("net" : Str).length = 3 := by decide +kernel
  have h4 : (" " : Str).length = 1 := by decide +kernel
  simp [h3, h4]
  omega
theorem len_ord {p h : Nat} {os : List Od} {o : Od} (k : NetOk p h os) (ho : o ∈ os) : (lineOrd o).length ≤ 30 := by
  refine Nat.le_trans (len_join _) ?_
  obtain ⟨h1, h2, h3, h4, h5⟩ := od_le k ho
  have a1 := (nT_ok h1).2.2.1
  have a2 := (nT_ok h2).2.2.1
  have a3 := (nT_ok h3).2.2.1
  have a4 := (nT_ok h4).2.2.1
  have a5 := (nT_ok h5).2.2.1
  have a6 : ("order" : Str).length = 5 := by decide +kernel
  have a7 : (" " : Str).length = 1 := by decide +kernel
  unfold wordsO
  simp [a6, a7]
  omega
theorem lines_len {p h : Nat} {os : List Od} (k : NetOk p h os) : ∀ l ∈ linesOf p h os, l.length ≤ 30 := fun l hl => by
  have := k.p30; have := k.h10
  rcases List.mem_cons.mp hl with rfl | hl
  · exact Nat.le_trans (len_net (by omega) (by omega)) (by decide)
  · obtain ⟨o, ho, rfl⟩ := List.mem_map.mp hl
    exact len_ord k ho
theorem sum_le {l : List Nat} {m : Nat} (h : ∀ x ∈ l, x ≤ m) : l.sum ≤ l.length * m := by
  induction l with
  | nil => exact Nat.zero_le _
  | cons a l ih =>
    rw [List.sum_cons, List.length_cons, Nat.succ_mul]
    have := ih fun x hx => h x (List.mem_cons_of_mem _ hx)
    have := h a List.mem_cons_self
    omega
theorem lines_sum {p h : Nat} {os : List Od} (k : NetOk p h os) : ((linesOf p h os).map (·.length)).sum ≤ 630 := by
  refine Nat.le_trans (sum_le (m := 30) fun x hx => ?_) ?_
  · obtain ⟨l, hl, rfl⟩ := List.mem_map.mp hx
    exact lines_len k l hl
  · rw [List.length_map]
    show (os.map lineOrd).length.succ * 30 ≤ 630
    rw [List.length_map]
    have := k.len
    omega
theorem len_text {p h : Nat} {os : List Od} (k : NetOk p h os) : (textOf p h os).length ≤ 700 := by
  refine Nat.le_trans (len_join _) ?_
  have h1 := lines_sum k
  have h2 : ("\n" : Str).length = 1 := by decide +kernel
  have h3 : (linesOf p h os).length ≤ 21 := by
    show (os.map lineOrd).length.succ ≤ 21
    rw [List.length_map]
    have := k.len
    omega
  rw [h2]
  omega
theorem wk_nT {n : Nat} (h : n ≤ 30) : Wk (nT n) (some n) := ⟨(nT_ok h).1, fun m e => by
  cases e
  exact (nT_ok h).2.1, by have := (nT_ok h).2.2.1; omega⟩
/-- joined words, one behind the other -/
theorem join3 (a b c : Str) : Txt.join " " [a, b, c] = a ++ " " ++ b ++ " " ++ c := by
  rw [TL.join_eq]
  refine TL.ext_tl ?_
  rw [TL.tl_join]
  simp [TL.joinL, TL.tl_append]
theorem join6 (a b c d e f : Str) : Txt.join " " [a, b, c, d, e, f] = a ++ " " ++ b ++ " " ++ c ++ " " ++ d ++ " " ++ e ++ " " ++ f := by
  rw [TL.join_eq]
  refine TL.ext_tl ?_
  rw [TL.tl_join]
  simp [TL.joinL, TL.tl_append]
theorem cat_net : (Str.empty ++ "net " : Str) = "net" ++ " " := by decide +kernel
theorem cat_order : (Str.empty ++ "order " : Str) = "order" ++ " " := by decide +kernel
theorem cat_net' : ("net " : Str) = "net" ++ " " := by decide +kernel
abbrev s_Net_text : Stmt := inClass (top 31) 5
abbrev N_Net_text : List Str := ["self", "lines", "source", "target", "first", "days", "delay"]
abbrev P_Net_text : List Str := ["self"]
theorem sc_Net_text : FnScope N_Net_text P_Net_text (defScope s_Net_text) := ⟨rfl, rfl, rfl, by decide +kernel, rfl, by decide +kernel, by decide +kernel⟩
/-! ### the text of a net -/
section
variable {P : Program} {w : World} {K : PySem.W.Frag} {mg : Str → Option Value} {base : Heap}
/-- the text of a net -/
def spText (C : Addr) : Sp := fun vs H Q _ => ∃ (x t : Addr) (p h : Nat) (os : List Od) (F : List Addr), vs = [.ref x] ∧ NetAt C H x p h os t F ∧ NetOk p h os ∧ ∀ H', Same H H' → Q (.str (textOf p h os)) H'
theorem log_small {n : Nat} (h : n ≤ 30) : ((n : Int)).natAbs.log2 < 1920 := by
  have : ((n : Int)).natAbs = n := Int.natAbs_natCast n
  rw [this]
  by_cases c : n = 0
  · subst c; decide
  · have h1 : n.log2 < 5 := (Nat.log2_lt c).mpr (Nat.lt_of_le_of_lt h (by decide))
    omega
theorem len_app (a b : Str) : (a ++ b).length = a.length + b.length := by
  rw [TL.len_tl, TL.tl_append, List.length_append, ← TL.len_tl, ← TL.len_tl]
theorem len_sp : (" " : Str).length = 1 := by decide +kernel
theorem len_net4 : (Str.empty ++ ("net " : Str)).length = 4 := by decide +kernel
theorem len_ord6 : (Str.empty ++ ("order " : Str)).length = 6 := by decide +kernel
theorem ok_text {f C : Addr} {fd : FuncData} (F : Fun K "text" "Net.text" s_Net_text f fd) (T : NetT K C) : FnOk P w K mg base CX0 2 f fd P_Net_text (spText C) := by
  refine F.ok sc_Net_text (fun vs H Q E h => ?_) (fun cdv A outer s H vs Q E hr h => ?_)
  · obtain ⟨x, t, p, h, os, F, rfl, _⟩ := h
    rfl
  · obtain ⟨x, t, p, h, os, F, rfl, Nt, nok, q⟩ := h
    refine ⟨_, pss_cons (ps_set (i := 1) sc_Net_text.nd rfl (.inl rfl) (pe_lst (pa_cons (pe_joined (.cons pe_str (.cons (pe_fmt (pe_fld (pv 0) rfl)) (.cons pe_str (.cons (pe_fmt (pe_fld (pv 0) rfl)) .nil))))) pa_nil)))
      (pss_cons (ps_for PassesOwn.never rfl (pi_tup (pe_fld (pv 0) rfl)) (pg_tup (by rfl) (pgs_cons (pg_name (i := 2) sc_Net_text.nd rfl (.inl rfl)) (pgs_cons (pg_name (i := 3) sc_Net_text.nd rfl (.inl rfl)) (pgs_cons (pg_name (i := 4) sc_Net_text.nd rfl (.inl rfl)) (pgs_cons (pg_name (i := 5) sc_Net_text.nd rfl (.inl rfl)) (pgs_cons (pg_name (i := 6) sc_Net_text.nd rfl (.inl rfl)) pgs_nil))))))
        (pss_one (ps_expr (pe_bm PySem.F.plainAttrs_list PySem.F.slot_list_append PySem.F.type_list_append mt_append (pv 1) (pa_cons (pe_joined (.cons pe_str (.cons (pe_fmt (pv 2)) (.cons pe_str (.cons (pe_fmt (pv 3)) (.cons pe_str (.cons (pe_fmt (pv 4)) (.cons pe_str (.cons (pe_fmt (pv 5)) (.cons pe_str (.cons (pe_fmt (pv 6)) .nil))))))))))) pa_nil)))))
      (pss_one (ps_ret (pe_join pe_str (pv 1))))), ?_⟩
    obtain ⟨dx, fl, as, _, hx, ⟨ts, ht, hP⟩, _⟩ := id Nt
    have p30 := nok.p30; have h10 := nok.h10; have ol := nok.len
    have hp2 := (nT_ok p30).2.2.1
    have hh2 := (nT_ok (show h ≤ 30 by omega)).2.2.1
    refine ⟨_, rfl, by rw [len_net4, sizeLine_eq]; omega, ?_⟩
    refine ⟨_, rfl, x, C, dx, _, _, rfl, hx, T.cl, T.nP, nf_pe, .inr ⟨_, rfl, log_small p30, nT p, rfl, ?_, ?_⟩⟩
    · rw [len_app, len_net4, sizeLine_eq]
      omega
    refine ⟨_, rfl, ?_, ?_⟩
    · rw [len_app, len_app, len_net4, len_sp, sizeLine_eq]
      omega
    refine ⟨_, rfl, x, C, dx, _, _, rfl, hx, T.cl, T.nH, nf_ho, .inr ⟨_, rfl, log_small (show h ≤ 30 by omega), nT h, rfl, ?_, ?_⟩⟩
    · rw [len_app, len_app, len_app, len_net4, len_sp, sizeLine_eq]
      omega
    have e1 : (((Str.empty ++ "net " : Str) ++ nT p) ++ " ") ++ nT h = lineNet p h := by
      unfold lineNet
      rw [join3, cat_net]
    refine ⟨(by show 1 ≤ sizeLine; decide), fun L nL => ?_⟩
    rw [show (V.str ((((Str.empty ++ "net ") ++ nT p) ++ " ") ++ nT h)) = V.str (lineNet p h) by rw [e1]]
    have s1 := same_upd (o := HO.lst [.str (lineNet p h)]) nL
    refine ⟨_, rfl, x, C, dx, _, _, rfl, s1 _ _ hx, T.cl, T.nO, nf_or, t, rfl, ⟨_, SqT.of (s1 _ _ ht)⟩, ?_⟩
    refine for_tup (K := K) (a := t) (xs := ts) (fun i σ H' => (∃ x2 x3 x4 x5 x6, σ = [some (.ref x), some (.ref L), x2, x3, x4, x5, x6]) ∧ H' = upd H L (.lst ((lineNet p h :: (os.take i).map lineOrd).map V.str)))
      ⟨⟨_, _, _, _, _, rfl⟩, rfl⟩ (fun i σ H' _ ⟨_, e⟩ => by rw [e]; exact SqT.of (same_upd nL _ _ ht)) ?_ ?_
    · rintro i v σ H1 hi ⟨⟨x2, x3, x4, x5, x6, rfl⟩, rfl⟩
      have hl := hP.length
      have lt : i < os.length := by rw [← hl]; exact (List.getElem?_eq_some_iff.mp hi).1
      have ei := List.getElem?_eq_getElem lt
      obtain ⟨v', hv', u, ev, hu⟩ := Paired.get? (i := i) hP ei
      obtain rfl : v' = v := Option.some.inj (hv'.symm.trans hi)
      subst ev
      have hmem := List.mem_of_getElem? ei
      generalize os[i] = o at ei hu hmem
      obtain ⟨b1, b2, b3, b4, b5⟩ := od_le nok hmem
      have c1 := (nT_ok b1).2.2.1
      have c2 := (nT_ok b2).2.2.1
      have c3 := (nT_ok b3).2.2.1
      have c4 := (nT_ok b4).2.2.1
      have c5 := (nT_ok b5).2.2.1
      have sL := same_upd (o := HO.lst ((lineNet p h :: (os.take i).map lineOrd).map V.str)) nL
      refine ⟨u, _, rfl, SqT.of (sL _ _ hu), rfl, _, _, rfl, _, _, rfl, _, _, rfl, _, _, rfl, _, _, rfl, rfl, ?_⟩
      refine ⟨_, rfl, .inl ⟨rfl, _, SqL.of upd_same⟩, ?_⟩
      refine ⟨_, rfl, by rw [len_ord6, sizeLine_eq]; omega, _, rfl, .inr ⟨_, rfl, log_small b1, nT o.s, rfl, by rw [len_app, len_ord6, sizeLine_eq]; omega, _, rfl, by rw [len_app, len_app, len_ord6, len_sp, sizeLine_eq]; omega, ?_⟩⟩
      refine ⟨_, rfl, .inr ⟨_, rfl, log_small b2, nT o.t, rfl, by rw [len_app, len_app, len_app, len_ord6, len_sp, sizeLine_eq]; omega, _, rfl, by rw [len_app, len_app, len_app, len_app, len_ord6, len_sp, sizeLine_eq]; omega, ?_⟩⟩
      refine ⟨_, rfl, .inr ⟨_, rfl, log_small b3, nT o.f, rfl, by rw [len_app, len_app, len_app, len_app, len_app, len_ord6, len_sp, sizeLine_eq]; omega, _, rfl, by rw [len_app, len_app, len_app, len_app, len_app, len_app, len_ord6, len_sp, sizeLine_eq]; omega, ?_⟩⟩
      refine ⟨_, rfl, .inr ⟨_, rfl, log_small b4, nT o.n, rfl, by rw [len_app, len_app, len_app, len_app, len_app, len_app, len_app, len_ord6, len_sp, sizeLine_eq]; omega, _, rfl, by rw [len_app, len_app, len_app, len_app, len_app, len_app, len_app, len_app, len_ord6, len_sp, sizeLine_eq]; omega, ?_⟩⟩
      refine ⟨_, rfl, .inr ⟨_, rfl, log_small b5, nT o.e, rfl, by rw [len_app, len_app, len_app, len_app, len_app, len_app, len_app, len_app, len_app, len_ord6, len_sp, sizeLine_eq]; omega, ?_⟩⟩
      refine ⟨L, _, _, rfl, rfl, upd_same, ?_, ⟨_, _, _, _, _, rfl⟩, ?_⟩
      · rw [List.length_map, List.length_cons, List.length_map, List.length_take]
        exact small1000 (by omega)
      · rw [upd_upd, List.take_add_one, ei]
        have e2 : ((((((((((Str.empty ++ "order " : Str) ++ nT o.s) ++ " ") ++ nT o.t) ++ " ") ++ nT o.f) ++ " ") ++ nT o.n) ++ " ") ++ nT o.e) = lineOrd o := by
          unfold lineOrd wordsO
          rw [join6, cat_order]
        show upd H L (.lst (((lineNet p h :: (os.take i).map lineOrd).map V.str) ++ [V.str ((((((((((Str.empty ++ "order " : Str) ++ nT o.s) ++ " ") ++ nT o.t) ++ " ") ++ nT o.f) ++ " ") ++ nT o.n) ++ " ") ++ nT o.e)])) = _
        rw [e2, Option.toList_some, List.map_append, List.map_cons, List.map_cons, List.map_append]
        rfl
    · rintro σ H1 ⟨⟨x2, x3, x4, x5, x6, rfl⟩, rfl⟩
      rw [hP.length, List.take_length]
      refine ⟨⟨_, rfl⟩, _, rfl, "\n", L, linesOf p h os, rfl, rfl, .inl (SqL.of upd_same), ?_, q _ (same_upd nL)⟩
      have h1 := lines_sum nok
      have h2 : ("\n" : Str).length = 1 := by decide +kernel
      have h3 : (linesOf p h os).length ≤ 21 := by
        show (os.map lineOrd).length.succ ≤ 21
        rw [List.length_map]
        omega
      rw [h2]
      omega
end
abbrev s_result_on : Stmt := top 25
abbrev N_result_on : List Str := ["day", "way", "goal", "days"]
abbrev P_result_on : List Str := ["day", "way"]
theorem sc_result_on : FnScope N_result_on P_result_on (defScope s_result_on) := ⟨rfl, rfl, rfl, by decide +kernel, rfl, by decide +kernel, by decide +kernel⟩
/-! ### a result on a day -/
def spResOn : Sp := fun vs H Q _ => ∃ (day : Nat) (v : V) (o : Option (Nat × Nat)), vs = [.int day, v] ∧ OptStop H v o ∧ ∀ H' v', Same H H' → OptStop H' v' (o.map fun g => (g.1, day + g.2)) → Q v' H'
section
variable {P : Program} {w : World} {K : PySem.W.Frag} {mg : Str → Option Value} {base : Heap}
theorem ok_res_on {f : Addr} {fd : FuncData} (F : Fun K "result_on" "result_on" s_result_on f fd) : FnOk P w K mg base CX0 2 f fd P_result_on spResOn := by
  refine F.ok sc_result_on (fun vs H Q E h => ?_) (fun cdv A outer s H vs Q E hr h => ?_)
  · obtain ⟨day, v, o, rfl, _⟩ := h
    rfl
  · obtain ⟨day, v, o, rfl, hv, q⟩ := h
    refine ⟨_, pss_cons (ps_if (pt_cmpR op_isN (pv 1) pe_non (nomark _)) (pss_one (ps_ret pe_non)) pss_nil)
      (pss_cons (ps_asg (pv 1) (pg_tup (by rfl) (pgs_cons (pg_name (i := 2) sc_result_on.nd rfl (.inl rfl)) (pgs_cons (pg_name (i := 3) sc_result_on.nd rfl (.inl rfl)) pgs_nil))))
      (pss_one (ps_ret (pe_tup (pa_cons (pv 2) (pa_cons (pe_op op_add (pv 0) (pv 3)) pa_nil)))))), ?_⟩
    refine ⟨_, rfl, rfl, _, rfl, ?_⟩
    cases o with
    | none =>
      obtain rfl : v = .non := hv
      exact iteT (q H .non (.refl H) rfl)
    | some g =>
      obtain ⟨u, rfl, hu⟩ := hv
      refine iteF ⟨_, rfl, u, _, rfl, SqT.of hu, rfl, _, _, rfl, _, _, rfl, rfl, ?_⟩
      refine ⟨_, rfl, _, rfl, _, rfl, _, _, rfl, rfl, (by show 2 ≤ sizeLine; decide), fun y ny => q _ _ (same_upd ny) ⟨y, rfl, ?_⟩⟩
      rw [upd_same]
      show some (HO.tup [V.int g.1, V.int ((day : Int) + (g.2 : Int))]) = some (HO.tup [V.int g.1, V.int ((day + g.2 : Nat) : Int)])
      rw [Int.natCast_add]
end
abbrev s_common_multiple : Stmt := top 38
abbrev N_common_multiple : List Str := ["period", "other_period", "multiple"]
abbrev P_common_multiple : List Str := ["period", "other_period"]
theorem sc_common_multiple : FnScope N_common_multiple P_common_multiple (defScope s_common_multiple) := ⟨rfl, rfl, rfl, by decide +kernel, rfl, by decide +kernel, by decide +kernel⟩
abbrev s_first_difference : Stmt := top 37
abbrev N_first_difference : List Str := ["net", "other", "multiple", "ways", "other_ways", "day", "house", "way", "other_way"]
abbrev P_first_difference : List Str := ["net", "other"]
theorem sc_first_difference : FnScope N_first_difference P_first_difference (defScope s_first_difference) := ⟨rfl, rfl, rfl, by decide +kernel, rfl, by decide +kernel, by decide +kernel⟩
/-! ### the first difference of two nets -/
def cmI (p q : Nat) : Nat := ((List.range q).find? fun i => decide (p * (i + 1) % q = 0)).getD 0 + 1
def cmul (p q : Nat) : Nat := p * cmI p q
theorem cmI_spec {p q : Nat} (hq : 0 < q) : p * cmI p q % q = 0 ∧ 1 ≤ cmI p q ∧ cmI p q ≤ q ∧ ∀ j, 1 ≤ j → j < cmI p q → p * j % q ≠ 0 := by
  unfold cmI
  cases e : (List.range q).find? fun i => decide (p * (i + 1) % q = 0) with
  | none =>
    have := List.find?_eq_none.mp e (q - 1) (List.mem_range.mpr (by omega))
    rw [show q - 1 + 1 = q by omega, Nat.mul_mod_left] at this
    exact absurd (decide_eq_true rfl) this
  | some i =>
    have h1 := of_decide_eq_true (List.find?_some (p := fun i => decide (p * (i + 1) % q = 0)) e)
    have h2 := List.mem_range.mp (List.mem_of_find?_eq_some e)
    refine ⟨h1, by show 1 ≤ i + 1; omega, h2, fun j hj lt z => ?_⟩
    have lt : j < i + 1 := lt
    obtain ⟨_, as, bs, e3, h3⟩ := List.find?_eq_some_iff_append.mp e
    have hj2 : j - 1 ∈ as := by
      have hl : as.length = i := by
        have h4 : (List.range q)[as.length]? = (as ++ i :: bs)[as.length]? := congrArg (fun l => l[as.length]?) e3
        rw [List.getElem?_append_right (Nat.le_refl _), Nat.sub_self] at h4
        have h5 : (List.range q)[as.length]? = some i := h4
        rw [List.getElem?_eq_some_iff] at h5
        obtain ⟨h6, h7⟩ := h5
        rw [List.getElem_range] at h7
        exact h7
      have h8 : (List.range q)[j - 1]? = some (j - 1) := List.getElem?_range (by omega)
      rw [e3, List.getElem?_append_left (by omega)] at h8
      exact List.mem_of_getElem? h8
    have := h3 (j - 1) hj2
    rw [show j - 1 + 1 = j by omega, z] at this
    exact Bool.noConfusion this
theorem cmul_dvd {p q : Nat} (hq : 0 < q) : cmul p q % p = 0 ∧ cmul p q % q = 0 := ⟨Nat.mul_mod_right _ _, (cmI_spec hq).1⟩
theorem cmul_pos {p q : Nat} (hp : 0 < p) : 0 < cmul p q := Nat.mul_pos hp (Nat.succ_pos _)
theorem cmul_le {p q : Nat} (hq : 0 < q) : cmul p q ≤ p * q := Nat.mul_le_mul_left _ (cmI_spec hq).2.2.1
theorem cmul_self {p : Nat} (hp : 0 < p) : cmul p p = p := by
  obtain ⟨_, h2, _, h4⟩ := cmI_spec (p := p) hp
  have : cmI p p = 1 := by
    rcases Nat.lt_or_ge 1 (cmI p p) with z | z
    · exact absurd (by rw [Nat.mul_one, Nat.mod_self]) (h4 1 (Nat.le_refl _) z)
    · omega
  unfold cmul
  rw [this, Nat.mul_one]
theorem way_eq_iff {p h p' h' hs day : Nat} {os os' : List Od} (ok : NetOk p h os) (ok' : NetOk p' h' os') (hh : hs < h) (hh' : hs < h') : wayOf p h os (hs, day % p) = wayOf p' h' os' (hs, day % p') ↔ dst p h os (hs, day) = dst p' h' os' (hs, day) := by
  rw [dst_way ok (s := (hs, day)) hh, dst_way ok' (s := (hs, day)) hh']
  show _ ↔ (wayOf p h os (hs, day % p)).map _ = (wayOf p' h' os' (hs, day % p')).map _
  constructor
  · intro e
    rw [e]
  · intro e
    generalize wayOf p h os (hs, day % p) = a at e
    generalize wayOf p' h' os' (hs, day % p') = b at e
    cases a with
    | none =>
      cases b with
      | none => rfl
      | some b => cases e
    | some a =>
      cases b with
      | none => cases e
      | some b =>
        have e : (a.1, day + a.2) = (b.1, day + b.2) := Option.some.inj e
        have e1 : a.1 = b.1 := (Prod.mk.inj e).1
        have e2 : day + a.2 = day + b.2 := (Prod.mk.inj e).2
        rw [show a = b from Prod.ext e1 (by omega)]
theorem same_days {p h p' h' hm M : Nat} {os os' : List Od} (ok : NetOk p h os) (ok' : NetOk p' h' os') (e1 : M % p = 0) (e2 : M % p' = 0) (hM : 0 < M) (hh : hm ≤ h) (hh' : hm ≤ h') (k : ∀ s : Nat × Nat, s.1 < hm → s.2 < M → dst p h os s = dst p' h' os' s) (s : Nat × Nat) (hs : s.1 < hm) : dst p h os s = dst p' h' os' s := by
  have a1 : s.1 < h := by omega
  have a2 : s.1 < h' := by omega
  refine (way_eq_iff ok ok' (day := s.2) a1 a2).mp ?_
  have m1 : s.2 % M % p = s.2 % p := Nat.mod_mod_of_dvd _ (Nat.dvd_of_mod_eq_zero e1)
  have m2 : s.2 % M % p' = s.2 % p' := Nat.mod_mod_of_dvd _ (Nat.dvd_of_mod_eq_zero e2)
  have := (way_eq_iff ok ok' (day := s.2 % M) a1 a2).mpr (k (s.1, s.2 % M) hs (Nat.mod_lt _ hM))
  rw [m1, m2] at this
  exact this
def DiffAt (H : Hp) (v : V) (p h : Nat) (os : List Od) (p' h' : Nat) (os' : List Od) : Prop :=
  (v = .non ∧ ∀ s : Nat × Nat, s.1 < min h h' → dst p h os s = dst p' h' os' s) ∨ ∃ (hs day : Nat) (u : Addr) (v1 v2 : V), v = .ref u ∧ H u = some (.tup [.int day, .int hs, v1, v2]) ∧ OptStop H v1 (dst p h os (hs, day)) ∧ OptStop H v2 (dst p' h' os' (hs, day)) ∧
    hs < min h h' ∧ dst p h os (hs, day) ≠ dst p' h' os' (hs, day) ∧ day < cmul p p' ∧ ∀ s : Nat × Nat, s.1 < min h h' → (s.2 < day ∨ (s.2 = day ∧ s.1 < hs)) → dst p h os s = dst p' h' os' s
def spCommon : Sp := fun vs H Q _ => ∃ (p q : Nat), vs = [.int p, .int q] ∧ 0 < q ∧ q ≤ 30 ∧ Q (.int (cmul p q : Nat)) H
def spFirstDiff (C : Addr) : Sp := fun vs H Q _ => ∃ (x t x' t' : Addr) (p h p' h' : Nat) (os os' : List Od) (F F' : List Addr), vs = [.ref x, .ref x'] ∧ NetAt C H x p h os t F ∧ NetAt C H x' p' h' os' t' F' ∧ NetOk p h os ∧ NetOk p' h' os' ∧ cmul p p' ≤ 400 ∧
  ∀ H' v, Same H H' → DiffAt H' v p h os p' h' os' → Q v H'
section
variable {P : Program} {w : World} {K : PySem.W.Frag} {mg : Str → Option Value} {base : Heap}
theorem ok_common {f : Addr} {fd : FuncData} (F : Fun K "common_multiple" "common_multiple" s_common_multiple f fd) : FnOk P w K mg base CX0 2 f fd P_common_multiple spCommon := by
  refine F.ok sc_common_multiple (fun vs H Q E h => ?_) (fun cdv A outer s H vs Q E hr h => ?_)
  · obtain ⟨p, q, rfl, _⟩ := h
    rfl
  · obtain ⟨p, q, rfl, hq, hq30, qq⟩ := h
    refine ⟨_, pss_cons (ps_set (i := 2) sc_common_multiple.nd rfl (.inl rfl) (pv 0))
      (pss_cons (ps_while PassesOwn.never (pt_cmpR op_ne (pe_op op_modN (pv 2) (pv 1)) pe_int (nomark _)) (pss_one (ps_aug (i := 2) sc_common_multiple.nd rfl (.inl rfl) (pv 0) ip_add)))
      (pss_one (ps_ret (pv 2)))), ?_⟩
    obtain ⟨h1, h2, h3, h4⟩ := cmI_spec (p := p) hq
    refine ⟨_, rfl, ?_⟩
    refine ⟨fun m σ' H' => ∃ i : Nat, i + m = cmI p q ∧ 1 ≤ i ∧ σ' = [some (.int p), some (.int q), some (.int ((p * i : Nat) : Int))] ∧ H' = H, ⟨cmI p q - 1, 1, by omega, Nat.le_refl _, by rw [Nat.mul_one]; rfl, rfl⟩, ?_⟩
    rintro m σ' H' ⟨i, hi, hi1, rfl, rfl⟩
    refine ⟨_, rfl, _, rfl, _, _, rfl, rfl, by omega, rfl, _, rfl, ?_⟩
    show if (!decide (V.int (((p * i : Nat) : Int).fmod (q : Int)) = V.int 0)) = true then _ else _
    rw [fmod_nat]
    by_cases c : m = 0
    · have e : i = cmI p q := by omega
      rw [e, h1]
      exact iteF ⟨_, rfl, qq⟩
    · have ne := h4 i hi1 (by omega)
      rw [show (!decide (V.int ((p * i % q : Nat) : Int) = V.int 0)) = true by rw [decide_eq_false (fun z => ne (by have := V.int.inj z; omega))]; rfl]
      refine iteT ⟨fun σ2 H2 => σ2 = [some (.int p), some (.int q), some (.int ((p * (i + 1) : Nat) : Int))] ∧ H2 = H', ?_, ?_⟩
      · rintro σ2 H2 ⟨rfl, rfl⟩
        exact ⟨m - 1, by omega, i + 1, by omega, by omega, rfl, rfl⟩
      · refine ⟨_, rfl, _, rfl, _, _, rfl, rfl, ?_, rfl⟩
        show [some (V.int p), some (V.int q), some (V.int (((p * i : Nat) : Int) + (p : Int)))] = _
        rw [show (((p * i : Nat) : Int) + (p : Int)) = ((p * (i + 1) : Nat) : Int) by rw [Nat.mul_succ, Int.natCast_add]]
theorem ok_first_diff {f C : Addr} {fd : FuncData} (F : Fun K "first_difference" "first_difference" s_first_difference f fd) (B : Blt mg) (T : NetT K C) (zm : mg "min" = none) (hL : ∃ t, mg "LONGEST_MULTIPLE" = some (.int 400 t)) (DC : Df P w K mg base "common_multiple" 2 P_common_multiple spCommon) (DR : Df P w K mg base "result_on" 2 P_result_on spResOn)
    (DW : Df P w K mg base "find_ways" 4 P_find_ways (spFindWays C)) : FnOk P w K mg base CX0 5 f fd P_first_difference (spFirstDiff C) := by
  obtain ⟨fC, fdC, gC, kC, bC, GC⟩ := DC
  obtain ⟨fR, fdR, gR, kR, bR, GR⟩ := DR
  obtain ⟨fW, fdW, gW, kW, bW, GW⟩ := DW
  obtain ⟨tkL, hL⟩ := hL
  refine F.ok sc_first_difference (fun vs H Q E h => ?_) (fun cdv A outer s H vs Q E hr h => ?_)
  · obtain ⟨x, t, x', t', p, h, p', h', os, os', F, F', rfl, _⟩ := h
    rfl
  · obtain ⟨x, t, x', t', p, h, p', h', os, os', F, F', rfl, Nt, Nt', ok, ok', hM, q⟩ := h
    have hr1 : Room 2 _ := hr.mono (by decide)
    have hu : (A.deeper (PyProof.Rows.envOfC "first_difference" (defScope s_first_difference) s.heap.objs.size f cdv)).units + 64 < cLine := hr.units
    have hu1 : (A.deeper (PyProof.Rows.envOfC "first_difference" (defScope s_first_difference) s.heap.objs.size f cdv)).units + 1 < cLine := hu_of hr
    refine ⟨_, pss_cons (ps_set (i := 2) sc_first_difference.nd rfl (.inl rfl) (pe_call GC hr1 (by rfl) gC kC bC .nil pass0 (pa_cons (pe_fld (pv 0) rfl) (pa_cons (pe_fld (pv 1) rfl) pa_nil))))
      (pss_cons (ps_if (pt_cmpR op_gt (pv 2) (pe_glob (v := .int 400) rfl hL ⟨_, rfl⟩) (nomark _)) (pss_one ps_never) pss_nil)
      (pss_cons (ps_par (by rfl) sc_first_difference.nd (i := 3) (j := 4) rfl rfl (by decide) rfl rfl (pa_cons (pe_call GW hr (by rfl) gW kW bW .nil pass0 (pa_cons (pv 0) pa_nil)) (pa_cons (pe_call GW hr (by rfl) gW kW bW .nil pass0 (pa_cons (pv 1) pa_nil)) pa_nil)) (by rfl))
      (pss_cons (ps_for PassesOwn.never rfl (pi_range1 rfl B.range (pa_cons (pv 2) pa_nil)) (pg_name (i := 5) sc_first_difference.nd rfl (.inl rfl))
        (pss_one (ps_for PassesOwn.never rfl (pi_range1 rfl B.range (pa_cons (pe_callB (call_min2 rfl) (by rfl) zm PyProof.Rows.boot_min (pa_cons (pe_fld (pv 0) rfl) (pa_cons (pe_fld (pv 1) rfl) pa_nil))) pa_nil)) (pg_name (i := 6) sc_first_difference.nd rfl (.inl rfl))
          (pss_cons (ps_set (i := 7) sc_first_difference.nd rfl (.inl rfl) (pe_dget hu1 (pv 3) (pe_tup (pa_cons (pv 6) (pa_cons (pe_op op_modN (pv 5) (pe_fld (pv 0) rfl)) pa_nil))) (fun _ _ => rfl)))
          (pss_cons (ps_set (i := 8) sc_first_difference.nd rfl (.inl rfl) (pe_dget hu1 (pv 4) (pe_tup (pa_cons (pv 6) (pa_cons (pe_op op_modN (pv 5) (pe_fld (pv 1) rfl)) pa_nil))) (fun _ _ => rfl)))
          (pss_one (ps_if (pt_cmpR (op_neD hu) (pv 7) (pv 8) (nomark _))
            (pss_one (ps_ret (pe_tup (pa_cons (pv 5) (pa_cons (pv 6) (pa_cons (pe_call GR hr1 (by rfl) gR kR bR .nil pass0 (pa_cons (pv 5) (pa_cons (pv 7) pa_nil))) (pa_cons (pe_call GR hr1 (by rfl) gR kR bR .nil pass0 (pa_cons (pv 5) (pa_cons (pv 8) pa_nil))) pa_nil))))))) pss_nil)))))))
      (pss_one (ps_ret pe_non))))), ?_⟩
    have p1 := ok.p1; have p30 := ok.p30; have h10 := ok.h10; have q1 := ok'.p1; have q30 := ok'.p30; have k10 := ok'.h10
    obtain ⟨dx, _, _, _, hx, _⟩ := id Nt
    obtain ⟨dx', _, _, _, hx', _⟩ := id Nt'
    have hMp := cmul_pos (q := p') p1
    obtain ⟨hd1, hd2⟩ := cmul_dvd (p := p) (q := p') q1
    refine ⟨_, rfl, x, C, dx, _, _, rfl, hx, T.cl, T.nP, nf_pe, _, rfl, x', C, dx', _, _, rfl, hx', T.cl, T.nP, nf_pe, p, p', rfl, q1, q30, ?_⟩
    refine ⟨_, rfl, _, _, rfl, rfl, _, rfl, ?_⟩
    rw [decide_eq_false (show ¬ ((400 : Int) < (cmul p p' : Nat)) by omega)]
    refine iteF ⟨_, rfl, x, t, p, h, os, F, rfl, Nt, ok, fun H1 d ks f s1 nd W1 hks => ?_⟩
    refine ⟨_, rfl, x', t', p', h', os', F', rfl, Nt'.same s1, ok', fun H2 d' ks' f' s2 nd' W2 hks' => ?_⟩
    have W1' := W1.same s2
    have s12 := s1.trans s2
    refine ⟨_, _, rfl, ?_⟩
    refine ⟨_, rfl, ((cmul p p' : Nat) : Int), rfl, by omega, by omega, ?_⟩
    have k12 := tk_of s12
    refine for_range (lo := 0) (n := ((cmul p p' : Nat) : Int).toNat) (fun i σ H' => (∃ y5 y6 y7 y8, σ = [some (.ref x), some (.ref x'), some (.int (cmul p p' : Nat)), some (.ref d), some (.ref d'), y5, y6, y7, y8]) ∧ Same H2 H' ∧ ∀ s : Nat × Nat, s.1 < min h h' → s.2 < i → dst p h os s = dst p' h' os' s)
      ⟨⟨_, _, _, _, rfl⟩, .refl H2, fun s _ z => absurd z (Nat.not_lt_zero _)⟩ ?_ ?_
    · rintro day σ H3 hday ⟨⟨y5, y6, y7, y8, rfl⟩, s3, hall⟩
      have hdM : day < cmul p p' := by omega
      rw [show (0 : Int) + (day : Int) = (day : Nat) from Int.zero_add _]
      have s123 := s12.trans s3
      refine ⟨_, rfl, x, C, dx, _, _, rfl, s123 _ _ hx, T.cl, T.nH, nf_ho, _, rfl, x', C, dx', _, _, rfl, s123 _ _ hx', T.cl, T.nH, nf_ho, _, _, rfl, ?_⟩
      have em : (if (h' : Int) < (h : Int) then (h' : Int) else (h : Int)) = ((min h h' : Nat) : Int) := by split <;> omega
      rw [em]
      refine ⟨((min h h' : Nat) : Int), rfl, by omega, by omega, ?_⟩
      refine for_range (lo := 0) (n := ((min h h' : Nat) : Int).toNat) (fun j σ H' => (∃ y6 y7 y8, σ = [some (.ref x), some (.ref x'), some (.int (cmul p p' : Nat)), some (.ref d), some (.ref d'), some (.int (day : Nat)), y6, y7, y8]) ∧ Same H2 H' ∧ ∀ a, a < j → dst p h os (a, day) = dst p' h' os' (a, day))
        ⟨⟨_, _, _, rfl⟩, s3, fun a z => absurd z (Nat.not_lt_zero _)⟩ ?_ ?_
      · rintro hs σ H4 hhs ⟨⟨w6, w7, w8, rfl⟩, s4, hrow⟩
        have hm : hs < min h h' := by omega
        have hh : hs < h := by omega
        have hh' : hs < h' := by omega
        rw [show (0 : Int) + (hs : Int) = (hs : Nat) from Int.zero_add _]
        have s124 := s12.trans s4
        refine ⟨_, rfl, _, rfl, _, rfl, _, rfl, x, C, dx, _, _, rfl, s124 _ _ hx, T.cl, T.nP, nf_pe, _, _, rfl, rfl, by omega, (by show 2 ≤ sizeLine; decide), fun pk npk => ?_⟩
        have s5 := same_upd (o := HO.tup [.int (hs : Nat), .int ((day : Int).fmod (p : Int))]) npk
        have hpk : (upd H4 pk (.tup [.int (hs : Nat), .int ((day : Int).fmod (p : Int))])) pk = some (.tup ((keyOf p (hs, day)).map kV)) := by
          rw [upd_same, fmod_nat]
          rfl
        have s25 := s4.trans s5
        generalize (upd H4 pk (.tup [.int (hs : Nat), .int ((day : Int).fmod (p : Int))])) = H5 at hpk s25
        have WA := W1'.same s25
        have hg := DGet.t WA.tab hpk
        have hin : plc p (hs, day) ∈ ks := (hks _).mpr (mem_lets.mpr ⟨hh, Nat.mod_lt _ p1⟩)
        rw [wkv_val fun q hq => plc_lt (WA.ok q hq).2, if_pos hin] at hg
        refine ⟨d, _, rfl, hg, ?_⟩
        have hwA := WA.ways _ hin
        refine ⟨_, rfl, _, rfl, _, rfl, _, rfl, x', C, dx', _, _, rfl, (s12.trans s25) _ _ hx', T.cl, T.nP, nf_pe, _, _, rfl, rfl, by omega, (by show 2 ≤ sizeLine; decide), fun pk' npk' => ?_⟩
        have s6 := same_upd (o := HO.tup [.int (hs : Nat), .int ((day : Int).fmod (p' : Int))]) npk'
        have hpk' : (upd H5 pk' (.tup [.int (hs : Nat), .int ((day : Int).fmod (p' : Int))])) pk' = some (.tup ((keyOf p' (hs, day)).map kV)) := by
          rw [upd_same, fmod_nat]
          rfl
        have s26 := s25.trans s6
        have hwA6 := hwA.keep (tk_of s6)
        generalize (upd H5 pk' (.tup [.int (hs : Nat), .int ((day : Int).fmod (p' : Int))])) = H6 at hpk' s26 hwA6
        have WB := W2.same s26
        have hg' := DGet.t WB.tab hpk'
        have hin' : plc p' (hs, day) ∈ ks' := (hks' _).mpr (mem_lets.mpr ⟨hh', Nat.mod_lt _ q1⟩)
        rw [wkv_val fun q hq => plc_lt (WB.ok q hq).2, if_pos hin'] at hg'
        refine ⟨d', _, rfl, hg', ?_⟩
        have hwB := WB.ways _ hin'
        refine ⟨_, rfl, _, rfl, _, _, opt_dp hwA6, opt_dp hwB, optD_shaped _, optD_shaped _, _, rfl, ?_⟩
        rw [optD_eqv]
        have iff := way_eq_iff ok ok' (day := day) hh hh'
        by_cases c : dst p h os (hs, day) = dst p' h' os' (hs, day)
        · rw [decide_eq_true (show wayOf p h os (plc p (hs, day)) = wayOf p' h' os' (plc p' (hs, day)) from iff.mpr c)]
          refine iteF ⟨⟨_, _, _, rfl⟩, s26, fun a ha => ?_⟩
          by_cases z : a < hs
          · exact hrow a z
          · rw [show a = hs by omega]
            exact c
        · rw [decide_eq_false (show ¬ wayOf p h os (plc p (hs, day)) = wayOf p' h' os' (plc p' (hs, day)) from fun z => c (iff.mp z))]
          refine iteT ⟨_, rfl, _, rfl, _, rfl, _, rfl, day, _, _, rfl, hwA6, fun H7 v1 s7 hv1 => ?_⟩
          refine ⟨_, rfl, _, rfl, day, _, _, rfl, hwB.keep (tk_of s7), fun H8 v2 s8 hv2 => ⟨(by show 4 ≤ sizeLine; decide), fun u nu => ?_⟩⟩
          have s9 := same_upd (o := HO.tup [.int (day : Nat), .int (hs : Nat), v1, v2]) nu
          refine q _ _ ((s12.trans s26).trans (s7.trans (s8.trans s9))) (.inr ⟨hs, day, u, v1, v2, rfl, upd_same, ?_, ?_, hm, c, hdM, fun s hs1 hs2 => ?_⟩)
          · rw [dst_way ok (s := (hs, day)) hh]
            exact hv1.keep (tk_of (s8.trans s9))
          · rw [dst_way ok' (s := (hs, day)) hh']
            exact hv2.keep (tk_of s9)
          · rcases hs2 with z | ⟨z1, z2⟩
            · exact hall s hs1 z
            · have := hrow s.1 z2
              rw [show s = (s.1, day) from Prod.ext rfl z1]
              exact this
      · rintro σ H4 ⟨⟨w6, w7, w8, rfl⟩, s4, hrow⟩
        refine ⟨⟨_, _, _, _, rfl⟩, s4, fun s hs1 hs2 => ?_⟩
        by_cases z : s.2 < day
        · exact hall s hs1 z
        · have := hrow s.1 (by omega)
          rw [show s = (s.1, day) from Prod.ext rfl (by show s.2 = day; omega)]
          exact this
    · rintro σ H3 ⟨⟨y5, y6, y7, y8, rfl⟩, s3, hall⟩
      refine q H3 .non (s12.trans s3) (.inl ⟨rfl, fun s hs => ?_⟩)
      exact same_days ok ok' hd1 hd2 hMp (Nat.min_le_left _ _) (Nat.min_le_right _ _) (fun s a b => hall s a (by omega)) s hs
end
/-! ### raising the errors of the package -/
/-- the class x at D: what its raising asks -/
structure ErrR (K : PySem.W.Frag) (mg : Str → Option Value) (x : Str) (D : Addr) : Prop where
  g : mg x = some (.ref D)
  x : PySem.W.excIn K D [.type "ValueError", .type "Exception", .type "BaseException", .type "object"] "ValueError.__new__" = true
  k : PySem.W.keepIn K (.ref D) = true
  b : PySem.W.subIn K (.ref D) (.type "BaseException") = some true
  t : PySem.W.typeIn K (.ref D) = some (.type "type")
theorem pmk_err {X : Cx} {x m : Str} {j : Nat} {p p2 pos : Pos} {D : Addr} (E : ErrR X.K X.mg x D) (hg : Gl X x) (hdb : (x == ("__debug__" : Str)) = false := by decide) : PMk X (.Call (.Name x p) [.Constant (.str m) j p2] [] pos) (fun _ H Q => Q (.ref D) none H) :=
  pmk_own PySem.F.excBase_ValueError E.x E.g E.k (raises_own E.b E.t) hg hdb
abbrev takesX {X : Cx} := @takes_of X
section
variable {P : Program} {w : World} {K : PySem.W.Frag} {mg : Str → Option Value} {base : Heap}
/-- a def with one parameter and a star parameter, that may raise -/
theorem fun_star1X {x qual p1 pv : Str} {st : Stmt} {f : Addr} {fd : FuncData} {N : List Str} {k : Nat} {sp : Sp} (F : Fun K x qual st f fd) (S : FnScope N ([p1] ++ [pv]) (defScope st))
    (h0 : ∀ (kV doc pm : Value) (an : Option Addr) (cdv ct a : Value), bindArgs (PySem.W.fnOf x qual (defArgs st) (defBody st) (defScope st) .none kV doc pm an cdv ct) ⟨[a], []⟩ = (newTuple [] >>= fun t => pure [(p1, a), (pv, t)]))
    (h1 : ∀ (kV doc pm : Value) (an : Option Addr) (cdv ct a r : Value) (rs : List Value), bindArgs (PySem.W.fnOf x qual (defArgs st) (defBody st) (defScope st) .none kV doc pm an cdv ct) ⟨a :: r :: rs, []⟩ = (newTuple (r :: rs) >>= fun t => pure [(p1, a), (pv, t)]))
    (hbody : ∀ (cdv : Value) (A : Around) (outer : List Env) (s : Shared) (H : Hp) (vs : List V) (Q : VK) (E : XK), Room k (A.deeper (PyProof.Rows.envOfC qual (defScope st) s.heap.objs.size f cdv)) → sp vs H Q E →
      ∃ t, PSs (cxOf (L2.CX P w) P w K mg base N qual (defScope st) f cdv A outer s H E) (defBody st) t ∧ t { nx := fun _ H' => Q .non H', rt := Q } (L2.start N vs) H) :
    FnR P w K mg base (L2.CX P w) (k + 1) f (fun vs H Q E => ∃ a rest, vs = a :: rest ∧ rest.length ≤ sizeLine ∧ ∀ p, H p = none → sp [a, .ref p] (upd H p (.tup rest)) Q E) := by
  obtain ⟨oc, od, kV, doc, pm, an, cdv, ct, osl, rfl, lk, hcd⟩ := F.ex
  have g := StX.fn_star (CX := L2.CX P w) (P := P) (w := w) (K := K) (mg := mg) (base := base) (k := k) (ps := [p1]) (pv := pv) (sp := sp) lk hcd S StX.cxUp
    (StX.bind_star1 (B := fun us => bindArgs (PySem.W.fnOf x qual (defArgs st) (defBody st) (defScope st) .none kV doc pm an cdv ct) ⟨us, []⟩) (h0 kV doc pm an cdv ct) (h1 kV doc pm an cdv ct))
    fun A outer s H vs Q E hr hsp => hbody cdv A outer s H vs Q E hr hsp
  exact g.imp fun vs H Q E ⟨a, rest, e, hz, h⟩ => ⟨[a], rest, e, rfl, hz, h⟩
end
/-! ### a law that makes lambdas: its own def, its table, what stands when a table grows -/
open LamX (Tabs TabS ExtN TabB CodeO) in
section
variable {K : PySem.W.Frag}
structure FunC (K : PySem.W.Frag) (x qual : Str) (st : Stmt) (f : Addr) (fd : FuncData) (c : Addr) : Prop where
  ex : ∃ (oc : Value) (od : Option Addr) (kV doc pm : Value) (an : Option Addr) (ct : Value) (osl : Array (Option Value)),
    fd = PySem.W.fnOf x qual (defArgs st) (defBody st) (defScope st) .none kV doc pm an (.ref c) ct ∧ K.lookup f = some ⟨oc, od, .func fd, osl⟩ ∧ PySem.W.codeIn K (.ref c) qual = true
theorem FunC.ok {P : Program} {w : World} {mg : Str → Option Value} {base : Heap} {x qual : Str} {st : Stmt} {f c : Addr} {fd : FuncData} {N ps : List Str} {k : Nat} {sp : Sp} (F : FunC K x qual st f fd c) (S : FnScope N ps (defScope st)) (len : ∀ vs H Q E, sp vs H Q E → vs.length = ps.length)
    (hbody : ∀ (A : Around) (outer : List Env) (s : Shared) (H : Hp) (vs : List V) (Q : VK) (E : XK), Room k (A.deeper (PyProof.Rows.envOfC qual (defScope st) s.heap.objs.size f (.ref c))) → sp vs H Q E →
      ∃ t, PSs (cxOf CX0 P w K mg base N qual (defScope st) f (.ref c) A outer s H E).nox (defBody st) t ∧ t { nx := fun _ H' => Q .non H', rt := Q } (L2.start N vs) H) : FnOk P w K mg base CX0 (k + 1) f fd ps sp := by
  obtain ⟨oc, od, kV, doc, pm, an, ct, osl, rfl, lk, hcd⟩ := F.ex
  refine fn_of lk hcd S len fun A outer s H vs Q E hr hsp => ?_
  obtain ⟨t, h, q⟩ := hbody A outer s H vs Q E hr hsp
  exact ⟨t, h.nox, q⟩
/-- the law's promise where its code object's table is Pt -/
def spLawT (K : PySem.W.Frag) (Pt : Addr) : Sp := fun vs H Q _ => ∃ (a : Addr) (ns : List Int), vs = [.ref a] ∧ SqL K H a (ns.map V.int) ∧ ns.length ≤ 63 ∧ H Pt = some (.tbl #[]) ∧ ∀ H', Q (.bl true) H'
theorem codeO_lst {c : Addr} {q : Str} {xs : List V} : CodeO c q ≠ .lst xs := fun z => by
  unfold CodeO at z
  cases z
theorem codeO_ins {c C dx : Addr} {q : Str} {fs : List (Str × V)} : CodeO c q ≠ .ins C dx fs := fun z => by
  unfold CodeO at z
  cases z
theorem tabs_but {T : List (Addr × Str)} {H H' : Hp} {d : Addr} {o : HO} (t : Tabs T H) (b : But d H H') (hd : H d = some o) (n1 : ∀ ps, o ≠ .tbl ps) (n2 : ∀ c q, o ≠ CodeO c q) : Tabs T H' := fun p hp => by
  obtain ⟨ps, h1, h2, h3⟩ := t p hp
  refine ⟨ps, b _ _ (fun z => ?_) h1, h2, fun pos cv hc => ?_⟩
  · rw [z, hd] at h1
    exact n1 _ (Option.some.inj h1)
  · obtain ⟨c, e, h4⟩ := h3 pos cv hc
    refine ⟨c, e, b _ _ (fun z => ?_) h4⟩
    rw [z, hd] at h4
    exact n2 _ _ (Option.some.inj h4)
theorem tabs_butL {T : List (Addr × Str)} {H H' : Hp} {d : Addr} {xs : List V} (t : Tabs T H) (b : But d H H') (hd : H d = some (.lst xs)) : Tabs T H' := tabs_but t b hd (fun ps z => by cases z) fun c q z => codeO_lst z.symm
theorem tabs_butD {T : List (Addr × Str)} {H H' : Hp} {d : Addr} (t : Tabs T H) (b : But d H H') (D : DAt H d) : Tabs T H' := by
  obtain ⟨_, _, _, _, _, hd⟩ := D
  exact tabs_butL t b hd
theorem tabs_butI {T : List (Addr × Str)} {H H' : Hp} {s C dx : Addr} {fs : List (Str × V)} (t : Tabs T H) (b : But s H H') (hi : H s = some (.ins C dx fs)) : Tabs T H' := tabs_but t b hi (fun ps z => by cases z) fun c q z => codeO_ins z.symm
section
variable {H H' : Hp}
theorem ExtN.tk (e : ExtN H H') : TupKeep H H' := fun _ _ h => e _ _ h fun ps z => by cases z
theorem ExtN.lst (e : ExtN H H') {b : Addr} {xs : List V} (h : H b = some (.lst xs)) : H' b = some (.lst xs) := e _ _ h fun ps z => by cases z
theorem ExtN.ins (e : ExtN H H') {b C dx : Addr} {fs : List (Str × V)} (h : H b = some (.ins C dx fs)) : H' b = some (.ins C dx fs) := e _ _ h fun ps z => by cases z
theorem ExtN.dT (e : ExtN H H') {b : Addr} {kvs : List (List L2.Key × V)} (h : H b = some (.dT kvs)) : H' b = some (.dT kvs) := e _ _ h fun ps z => by cases z
theorem DAt.extN {d : Addr} (D : DAt H d) (e : ExtN H H') : DAt H' d := by
  obtain ⟨a, b, c, h1, h2, h3⟩ := D
  exact ⟨a, b, c, h1, h2, ExtN.lst e h3⟩
theorem NetAt.extN {C : Addr} {x : Addr} {p h : Nat} {os : List Od} {t : Addr} {F : List Addr} (N : NetAt C H x p h os t F) (e : ExtN H H') : NetAt C H' x p h os t F := by
  obtain ⟨dx, fl, as, rfl, h1, h2, h3, h4, h5⟩ := N
  exact ⟨dx, fl, as, rfl, ExtN.ins e h1, h2.keep (ExtN.tk e), ExtN.lst e h3, h4, fun i a hi => ExtN.lst e (h5 i a hi)⟩
theorem tabs_same {T : List (Addr × Str)} (t : Tabs T H) (s : Same H H') : Tabs T H' := LamX.Tabs.ext t fun b o e => s b o e
end
end
abbrev s_l_error_of : Stmt := top 49
abbrev N_l_error_of : List Str := ["_law_call", "e", "_law_kinds", "_law_names", "_law_name"]
abbrev P_l_error_of : List Str := ["_law_call"]
theorem sc_l_error_of : FnScope N_l_error_of P_l_error_of (defScope s_l_error_of) := ⟨rfl, rfl, rfl, by decide +kernel, rfl, by decide +kernel, by decide +kernel⟩
/-! ### the law's helper: which error a call raises -/
def eNames : List Str := ["day", "house", "number", "limit", "order", "many", "long", "result", "contradiction", "name", "unknown", "net", "text", "code", "operation"]
def eName (i : Nat) : Str := eNames.getD i "day"
/-- the classes of errors, by the names that the law's helper asks for -/
structure ErrM (mg : Str → Option Value) (CP : Addr) (c : Nat → Addr) : Prop where
  gp : mg "PostError" = some (.ref CP)
  g0 : mg "InvalidDay" = some (.ref (c 0))
  g1 : mg "UnknownHouse" = some (.ref (c 1))
  g2 : mg "UnknownOrder" = some (.ref (c 2))
  g3 : mg "InvalidLimit" = some (.ref (c 3))
  g4 : mg "InvalidOrder" = some (.ref (c 4))
  g5 : mg "TooManyOrders" = some (.ref (c 5))
  g6 : mg "TooLong" = some (.ref (c 6))
  g7 : mg "InvalidResult" = some (.ref (c 7))
  g8 : mg "Contradiction" = some (.ref (c 8))
  g9 : mg "InvalidName" = some (.ref (c 9))
  g10 : mg "UnknownName" = some (.ref (c 10))
  g11 : mg "InvalidNet" = some (.ref (c 11))
  g12 : mg "TextFault" = some (.ref (c 12))
  g13 : mg "InvalidCode" = some (.ref (c 13))
  g14 : mg "InvalidOperation" = some (.ref (c 14))
  gv : mg "ValueError" = none
/-- D is the i-th of these classes -/
structure Err15 (K : PySem.W.Frag) (CP : Addr) (c : Nat → Addr) (D : Addr) (i : Nat) : Prop where
  lt : i < 15
  cl : ExcC K D
  ex : PySem.W.exmOne K (.ref D) (.ref CP) = some true
  is : ∀ j, j < 15 → PySem.W.kitOne K (.ref D) (.ref (c j)) = some (decide (j = i))
  ve : PySem.W.kitOne K (.ref D) (.type "ValueError") = some true
def kindsL (i : Nat) : List V := (List.range 15).map fun j => V.bl (decide (j = i))
theorem kinds_count (i : Nat) (h : i < 15) : ((List.range 15).map fun j => PyData.bool (decide (j = i))).countP (fun z => PyData.eqv z (.bool true)) = 1 := by
  rw [List.countP_map]
  have e : ((fun z => PyData.eqv z (.bool true)) ∘ fun j => PyData.bool (decide (j = i))) = fun j => decide (j = i) := by
    funext j
    show PyData.eqv (.bool (decide (j = i))) (.bool true) = decide (j = i)
    cases decide (j = i) <;> simp [PyData.eqv]
  rw [e]
  have : ∀ i, i < 15 → (List.range 15).countP (fun j => decide (j = i)) = 1 := by decide +kernel
  exact this i h
section
variable {K : PySem.W.Frag} {H : Hp}
theorem kinds_dp (i : Nat) : DpAll K H (kindsL i) ((List.range 15).map fun j => PyData.bool (decide (j = i))) := by
  unfold kindsL
  generalize List.range 15 = l
  induction l with
  | nil => exact .nil
  | cons j r ih => exact .cons (.bl _) ih
end
theorem kinds_plain (i : Nat) : PyData.plainAll ((List.range 15).map fun j => PyData.bool (decide (j = i))) = true := by
  generalize List.range 15 = l
  induction l with
  | nil => rfl
  | cons j r ih => simp [PyData.plainAll, PyData.plain, ih]
theorem kinds_at {i j : Nat} (h : j < 15) : (kindsL i)[j]? = some (V.bl (decide (j = i))) := by
  unfold kindsL
  rw [List.getElem?_map, List.getElem?_range h]
  rfl
theorem kinds_flat (i : Nat) : (kindsL i).all flatV = true := by
  rw [List.all_eq_true]
  intro v hv
  obtain ⟨j, _, rfl⟩ := List.mem_map.mp hv
  rfl
theorem eName_plain : ∀ i, i < 11 → eName i ≠ "net" ∧ eName i ≠ "text" ∧ eName i ≠ "code" ∧ eName i ≠ "operation" := by decide +kernel
theorem eName_at {i : Nat} (h : i < 15) : (eNames.map V.str)[i]? = some (V.str (eName i)) := by
  have hl : i < eNames.length := h
  unfold eName
  rw [List.getElem?_map, List.getElem?_eq_getElem hl]
  simp [List.getD, List.getElem?_eq_getElem hl]
section
variable {X : Cx}
theorem pe_never {e : Expr} : PE X e (fun _ _ _ => False) := ⟨fun _ _ _ _ _ _ h => h.elim⟩
end
section
open LamX
variable {X : Cx} {C : Addr}
/-- what the helper makes of a call that raises one of the plain errors, or none -/
def TTerr (K : PySem.W.Frag) (CP : Addr) (c : Nat → Addr) : (XK → Hp → VK → Prop) → Hp → VK → Prop := fun tl H Q =>
  tl (fun cls d H' => ∃ D i, cls = .ref D ∧ d = none ∧ Err15 K CP c D i ∧ i < 11 ∧ ∀ u H'', Same H' H'' → H'' u = some (.tup [.str (eName i), .int 0]) → Q (.ref u) H'') H fun _ H' => Q .non H'
set_option maxHeartbeats 0 in
theorem err_core {g CP : Addr} {cdg : Value} {c : Nat → Addr} {k : Nat} (M : ErrM X.mg CP c) (B : Blt X.mg) (hr : Room (k + 2) X.A) {f : Addr} {s : Shared} {H : Hp} {Q : VK} {tl : XK → Hp → VK → Prop}
    (act : ∀ (W : WX) (pn : List (Addr × Obj)) (xe : Value → Shared → Prop) (E : XK) (p1 p2 : Pos), L2.Takes ((cxOf C8.CX0 X.prog X.w X.K X.mg X.base N_l_error_of "_law_error_of" (defScope s_l_error_of) g cdg X.A X.stack s H C8.E0).tr pn xe) W → (∀ cls d σ' H', E cls d H' → W cls d σ' H') →
      PE ((cxOf C8.CX0 X.prog X.w X.K X.mg X.base N_l_error_of "_law_error_of" (defScope s_l_error_of) g cdg X.A X.stack s H C8.E0).tr pn xe) (.Call (.Name "_law_call" p1) [] [] p2) (fun σZ HZ Q => σZ[0]? = some (some (.ref f)) ∧ tl E HZ Q)) (h : TTerr X.K CP c tl H Q) :
    ∃ t, PSs (cxOf C8.CX0 X.prog X.w X.K X.mg X.base N_l_error_of "_law_error_of" (defScope s_l_error_of) g cdg X.A X.stack s H C8.E0).nox (defBody s_l_error_of) t ∧ t { nx := fun _ H' => Q .non H', rt := Q } (L2.start N_l_error_of [.ref f]) H := by
  have hu : (X.A.deeper (PyProof.Rows.envOfC "_law_error_of" (defScope s_l_error_of) s.heap.objs.size g cdg)).units + 65 < cLine := by
    have := (hr.deeper (PyProof.Rows.envOfC "_law_error_of" (defScope s_l_error_of) s.heap.objs.size g cdg)).un
    omega
  refine ⟨_, pss_cons (ps_try_as (X := (cxOf C8.CX0 X.prog X.w X.K X.mg X.base N_l_error_of "_law_error_of" (defScope s_l_error_of) g cdg X.A X.stack s H C8.E0).nox) (c := .ref CP) (i := 1)
      (tb := fun W D σ H => ∃ Ech : XK, (∀ cls d σ' H', Ech cls d H' → W cls d σ' H') ∧ σ[0]? = some (some (.ref f)) ∧ tl Ech H (fun _ H' => D.nx σ H'))
      (ts := fun a cls d Dn σ H => ∃ D i, cls = .ref D ∧ d = none ∧ Err15 X.K CP c D i ∧ i < 11 ∧ (∃ σ0 : L2.St, σ = σ0.set 1 (some (.ref a))) ∧ ∀ u H'', Same H H'' → H'' u = some (.tup [.str (eName i), .int 0]) → Dn.rt (.ref u) H'')
      rfl rfl sc_l_error_of.nd rfl rfl ⟨rfl, by decide, .inl M.gp⟩ L2.takes0 (fun W pn xe tk _ => ?_) (fun a oe cls d pn hz hf => ?_)) (pss_one (ps_ret pe_non)), ?_⟩
  · refine ⟨fun pins s' σ H' D I h' => ?_⟩
    obtain ⟨Ech, hW, h1, h3⟩ := h'
    refine PSs.run (pss_one (ps_expr (act W pn xe Ech _ _ tk hW))) pins s' σ H' D I ⟨h1, h3⟩
  · refine ⟨fun pins s' σ H' Dn I' h' => ?_⟩
    obtain ⟨D, i, rfl, rfl, e15, hi, ⟨σ0, rfl⟩, hq⟩ := h'
    have hlen : (σ0.set 1 (some (V.ref a))).length = 5 := I'.len
    rw [List.length_set] at hlen
    obtain ⟨y0, y1, y2, y3, y4, rfl⟩ : ∃ y0 y1 y2 y3 y4, σ0 = [y0, y1, y2, y3, y4] := by
      match σ0, hlen with
      | [y0, y1, y2, y3, y4], _ => exact ⟨_, _, _, _, _, rfl⟩
    let Z : Cx := (cxOf C8.CX0 X.prog X.w X.K X.mg X.base N_l_error_of "_law_error_of" (defScope s_l_error_of) g cdg X.A X.stack s H C8.E0).nox
    have iE := call_isE (X := Z) (a := a) (D := D) (oe := oe) (pn := pn) e15.cl hz hf
    refine PSs.run (X := Z.suite a ((a, oe) :: pn)) (pss_cons (ps_set (i := 2) sc_l_error_of.nd rfl (.inl rfl) (pe_lst (pa_cons (pe_callB iE (by rfl) B.isi PyProof.Rows.boot_isinstance (pa_cons (pv 1) (pa_cons (pe_glob (v := .ref (c 0)) (by rfl) M.g0 rfl) pa_nil))) (pa_cons (pe_callB iE (by rfl) B.isi PyProof.Rows.boot_isinstance (pa_cons (pv 1) (pa_cons (pe_glob (v := .ref (c 1)) (by rfl) M.g1 rfl) pa_nil))) (pa_cons (pe_callB iE (by rfl) B.isi PyProof.Rows.boot_isinstance (pa_cons (pv 1) (pa_cons (pe_glob (v := .ref (c 2)) (by rfl) M.g2 rfl) pa_nil))) pa_nil)))))
        (pss_cons (ps_set (i := 2) sc_l_error_of.nd rfl (.inl rfl) (pe_op op_cat (pv 2) (pe_lst (pa_cons (pe_callB iE (by rfl) B.isi PyProof.Rows.boot_isinstance (pa_cons (pv 1) (pa_cons (pe_glob (v := .ref (c 3)) (by rfl) M.g3 rfl) pa_nil))) (pa_cons (pe_callB iE (by rfl) B.isi PyProof.Rows.boot_isinstance (pa_cons (pv 1) (pa_cons (pe_glob (v := .ref (c 4)) (by rfl) M.g4 rfl) pa_nil))) (pa_cons (pe_callB iE (by rfl) B.isi PyProof.Rows.boot_isinstance (pa_cons (pv 1) (pa_cons (pe_glob (v := .ref (c 5)) (by rfl) M.g5 rfl) pa_nil))) pa_nil))))))
        (pss_cons (ps_set (i := 2) sc_l_error_of.nd rfl (.inl rfl) (pe_op op_cat (pv 2) (pe_lst (pa_cons (pe_callB iE (by rfl) B.isi PyProof.Rows.boot_isinstance (pa_cons (pv 1) (pa_cons (pe_glob (v := .ref (c 6)) (by rfl) M.g6 rfl) pa_nil))) (pa_cons (pe_callB iE (by rfl) B.isi PyProof.Rows.boot_isinstance (pa_cons (pv 1) (pa_cons (pe_glob (v := .ref (c 7)) (by rfl) M.g7 rfl) pa_nil))) (pa_cons (pe_callB iE (by rfl) B.isi PyProof.Rows.boot_isinstance (pa_cons (pv 1) (pa_cons (pe_glob (v := .ref (c 8)) (by rfl) M.g8 rfl) pa_nil))) pa_nil))))))
        (pss_cons (ps_set (i := 2) sc_l_error_of.nd rfl (.inl rfl) (pe_op op_cat (pv 2) (pe_lst (pa_cons (pe_callB iE (by rfl) B.isi PyProof.Rows.boot_isinstance (pa_cons (pv 1) (pa_cons (pe_glob (v := .ref (c 9)) (by rfl) M.g9 rfl) pa_nil))) (pa_cons (pe_callB iE (by rfl) B.isi PyProof.Rows.boot_isinstance (pa_cons (pv 1) (pa_cons (pe_glob (v := .ref (c 10)) (by rfl) M.g10 rfl) pa_nil))) (pa_cons (pe_callB iE (by rfl) B.isi PyProof.Rows.boot_isinstance (pa_cons (pv 1) (pa_cons (pe_glob (v := .ref (c 11)) (by rfl) M.g11 rfl) pa_nil))) pa_nil))))))
        (pss_cons (ps_set (i := 2) sc_l_error_of.nd rfl (.inl rfl) (pe_op op_cat (pv 2) (pe_lst (pa_cons (pe_callB iE (by rfl) B.isi PyProof.Rows.boot_isinstance (pa_cons (pv 1) (pa_cons (pe_glob (v := .ref (c 12)) (by rfl) M.g12 rfl) pa_nil))) (pa_cons (pe_callB iE (by rfl) B.isi PyProof.Rows.boot_isinstance (pa_cons (pv 1) (pa_cons (pe_glob (v := .ref (c 13)) (by rfl) M.g13 rfl) pa_nil))) (pa_cons (pe_callB iE (by rfl) B.isi PyProof.Rows.boot_isinstance (pa_cons (pv 1) (pa_cons (pe_glob (v := .ref (c 14)) (by rfl) M.g14 rfl) pa_nil))) pa_nil))))))
        (pss_cons (ps_if (PW.pt (pw_or (pt_cmpR op_ne (pe_bm PySem.F.plainAttrs_list PySem.F.slot_list_count PySem.F.type_list_count (mt_countD hu) (pv 2) (pa_cons pe_bl pa_nil)) pe_int (nomark _)) (pw_or1 (pt_not (pt_val (pe_callB iE (by rfl) B.isi PyProof.Rows.boot_isinstance (pa_cons (pv 1) (pa_cons (pe_bltn (v := .ty "ValueError") (by rfl) M.gv (by decide +kernel) rfl) pa_nil)))))))) (pss_one (ps_ret (pe_tup (pa_cons pe_str (pa_cons pe_int pa_nil))))) pss_nil)
        (pss_cons (ps_set (i := 3) sc_l_error_of.nd rfl (.inl rfl) (pe_lst (pa_cons pe_str (pa_cons pe_str (pa_cons pe_str (pa_cons pe_str (pa_cons pe_str (pa_cons pe_str (pa_cons pe_str (pa_cons pe_str (pa_cons pe_str (pa_cons pe_str pa_nil))))))))))))
        (pss_cons (ps_set (i := 4) sc_l_error_of.nd rfl (.inl rfl) (pe_ix ix_list (pe_op op_cat (pv 3) (pe_lst (pa_cons pe_str (pa_cons pe_str (pa_cons pe_str (pa_cons pe_str (pa_cons pe_str pa_nil))))))) (pe_bm PySem.F.plainAttrs_list PySem.F.slot_list_index PySem.F.type_list_index mt_index (pv 2) (pa_cons pe_bl pa_nil)) (fun _ _ => rfl)))
        (pss_cons (ps_if (pt_cmpR op_eq (pv 4) pe_str (nomark _)) (pss_one (ps_ret pe_never)) pss_nil)
        (pss_cons (ps_if (pt_cmpR op_eq (pv 4) pe_str (nomark _)) (pss_one (ps_ret pe_never)) pss_nil)
        (pss_one (ps_ret (pe_tup (pa_cons (pv 4) (pa_cons (pe_ifExp (pt_cmpR op_in_seq (pv 4) (pe_lst (pa_cons pe_str (pa_cons pe_str pa_nil))) rfl) pe_never pe_int) pa_nil))))))))))))))) pins s' _ H' Dn I' ?_
    refine ⟨_, rfl, .ref (c 0), .ref (c 0), _, rfl, (fun _ r => r), e15.is 0 (by decide), _, rfl, .ref (c 1), .ref (c 1), _, rfl, (fun _ r => r), e15.is 1 (by decide), _, rfl, .ref (c 2), .ref (c 2), _, rfl, (fun _ r => r), e15.is 2 (by decide), (by show 3 ≤ sizeLine; decide), fun l0 n0 => ?_⟩
    have hk0 : (upd H' l0 (.lst [.bl (decide (0 = i)), .bl (decide (1 = i)), .bl (decide (2 = i))])) l0 = some (.lst [.bl (decide (0 = i)), .bl (decide (1 = i)), .bl (decide (2 = i))]) := upd_same
    have sm0 := same_upd (o := HO.lst [.bl (decide (0 = i)), .bl (decide (1 = i)), .bl (decide (2 = i))]) n0
    generalize (upd H' l0 (.lst [.bl (decide (0 = i)), .bl (decide (1 = i)), .bl (decide (2 = i))])) = H0 at hk0 sm0
    refine ⟨_, rfl, _, rfl, .ref (c 3), .ref (c 3), _, rfl, (fun _ r => r), e15.is 3 (by decide), _, rfl, .ref (c 4), .ref (c 4), _, rfl, (fun _ r => r), e15.is 4 (by decide), _, rfl, .ref (c 5), .ref (c 5), _, rfl, (fun _ r => r), e15.is 5 (by decide), (by show 3 ≤ sizeLine; decide), fun b1 nb1 => ?_⟩
    obtain ⟨L1, eL1⟩ : ∃ L : List V, L = [.bl (decide (0 = i)), .bl (decide (1 = i)), .bl (decide (2 = i))] ++ [.bl (decide (3 = i)), .bl (decide (4 = i)), .bl (decide (5 = i))] := ⟨_, rfl⟩
    have sb1 := same_upd (o := HO.lst [.bl (decide (3 = i)), .bl (decide (4 = i)), .bl (decide (5 = i))]) nb1
    refine ⟨l0, b1, _, _, rfl, rfl, sb1 _ _ hk0, upd_same, (by show 3 + 3 ≤ sizeLine; decide), fun l1 n1 => ?_⟩
    rw [← eL1]
    have sm1 := sm0.trans (sb1.trans (same_upd (o := HO.lst L1) n1))
    have hk1 : (upd (upd H0 b1 (.lst [.bl (decide (3 = i)), .bl (decide (4 = i)), .bl (decide (5 = i))])) l1 (.lst L1)) l1 = some (.lst L1) := upd_same
    generalize (upd (upd H0 b1 (.lst [.bl (decide (3 = i)), .bl (decide (4 = i)), .bl (decide (5 = i))])) l1 (.lst L1)) = H1 at hk1 sm1
    refine ⟨_, rfl, _, rfl, .ref (c 6), .ref (c 6), _, rfl, (fun _ r => r), e15.is 6 (by decide), _, rfl, .ref (c 7), .ref (c 7), _, rfl, (fun _ r => r), e15.is 7 (by decide), _, rfl, .ref (c 8), .ref (c 8), _, rfl, (fun _ r => r), e15.is 8 (by decide), (by show 3 ≤ sizeLine; decide), fun b2 nb2 => ?_⟩
    obtain ⟨L2, eL2⟩ : ∃ L : List V, L = L1 ++ [.bl (decide (6 = i)), .bl (decide (7 = i)), .bl (decide (8 = i))] := ⟨_, rfl⟩
    have sb2 := same_upd (o := HO.lst [.bl (decide (6 = i)), .bl (decide (7 = i)), .bl (decide (8 = i))]) nb2
    refine ⟨l1, b2, _, _, rfl, rfl, sb2 _ _ hk1, upd_same, (by rw [eL1]; show 6 + 3 ≤ sizeLine; decide), fun l2 n2 => ?_⟩
    rw [← eL2]
    have sm2 := sm1.trans (sb2.trans (same_upd (o := HO.lst L2) n2))
    have hk2 : (upd (upd H1 b2 (.lst [.bl (decide (6 = i)), .bl (decide (7 = i)), .bl (decide (8 = i))])) l2 (.lst L2)) l2 = some (.lst L2) := upd_same
    generalize (upd (upd H1 b2 (.lst [.bl (decide (6 = i)), .bl (decide (7 = i)), .bl (decide (8 = i))])) l2 (.lst L2)) = H2 at hk2 sm2
    refine ⟨_, rfl, _, rfl, .ref (c 9), .ref (c 9), _, rfl, (fun _ r => r), e15.is 9 (by decide), _, rfl, .ref (c 10), .ref (c 10), _, rfl, (fun _ r => r), e15.is 10 (by decide), _, rfl, .ref (c 11), .ref (c 11), _, rfl, (fun _ r => r), e15.is 11 (by decide), (by show 3 ≤ sizeLine; decide), fun b3 nb3 => ?_⟩
    obtain ⟨L3, eL3⟩ : ∃ L : List V, L = L2 ++ [.bl (decide (9 = i)), .bl (decide (10 = i)), .bl (decide (11 = i))] := ⟨_, rfl⟩
    have sb3 := same_upd (o := HO.lst [.bl (decide (9 = i)), .bl (decide (10 = i)), .bl (decide (11 = i))]) nb3
    refine ⟨l2, b3, _, _, rfl, rfl, sb3 _ _ hk2, upd_same, (by rw [eL2, eL1]; show 9 + 3 ≤ sizeLine; decide), fun l3 n3 => ?_⟩
    rw [← eL3]
    have sm3 := sm2.trans (sb3.trans (same_upd (o := HO.lst L3) n3))
    have hk3 : (upd (upd H2 b3 (.lst [.bl (decide (9 = i)), .bl (decide (10 = i)), .bl (decide (11 = i))])) l3 (.lst L3)) l3 = some (.lst L3) := upd_same
    generalize (upd (upd H2 b3 (.lst [.bl (decide (9 = i)), .bl (decide (10 = i)), .bl (decide (11 = i))])) l3 (.lst L3)) = H3 at hk3 sm3
    refine ⟨_, rfl, _, rfl, .ref (c 12), .ref (c 12), _, rfl, (fun _ r => r), e15.is 12 (by decide), _, rfl, .ref (c 13), .ref (c 13), _, rfl, (fun _ r => r), e15.is 13 (by decide), _, rfl, .ref (c 14), .ref (c 14), _, rfl, (fun _ r => r), e15.is 14 (by decide), (by show 3 ≤ sizeLine; decide), fun b4 nb4 => ?_⟩
    obtain ⟨L4, eL4⟩ : ∃ L : List V, L = L3 ++ [.bl (decide (12 = i)), .bl (decide (13 = i)), .bl (decide (14 = i))] := ⟨_, rfl⟩
    have sb4 := same_upd (o := HO.lst [.bl (decide (12 = i)), .bl (decide (13 = i)), .bl (decide (14 = i))]) nb4
    refine ⟨l3, b4, _, _, rfl, rfl, sb4 _ _ hk3, upd_same, (by rw [eL3, eL2, eL1]; show 12 + 3 ≤ sizeLine; decide), fun l4 n4 => ?_⟩
    rw [← eL4]
    have sm4 := sm3.trans (sb4.trans (same_upd (o := HO.lst L4) n4))
    have hk4 : (upd (upd H3 b4 (.lst [.bl (decide (12 = i)), .bl (decide (13 = i)), .bl (decide (14 = i))])) l4 (.lst L4)) l4 = some (.lst L4) := upd_same
    generalize (upd (upd H3 b4 (.lst [.bl (decide (12 = i)), .bl (decide (13 = i)), .bl (decide (14 = i))])) l4 (.lst L4)) = H4 at hk4 sm4
    have hk : H4 l4 = some (.lst (kindsL i)) := by rw [hk4, eL4, eL3, eL2, eL1]; rfl
    clear hk4 hk3 hk2 hk1 hk0
    refine ⟨_, rfl, .inl ⟨rfl, _, SqL.of hk⟩, l4, _, .bl true, .bool true, _, rfl, rfl, SqL.of hk, kinds_dp i, .bl true, kinds_plain i, rfl, by decide, ?_⟩
    rw [kinds_count i e15.lt]
    refine ⟨rfl, _, rfl, iteF ⟨_, rfl, .ty "ValueError", .type "ValueError", _, rfl, (fun _ r => r), e15.ve, _, rfl, iteF ?_⟩⟩
    refine ⟨(by show 10 ≤ sizeLine; decide), fun m1 nm1 => ?_⟩
    have st1 := same_upd (o := HO.lst ((eNames.take 10).map V.str)) nm1
    refine ⟨_, rfl, (by show 5 ≤ sizeLine; decide), fun m2 nm2 => ?_⟩
    have st2 := same_upd (o := HO.lst ((eNames.drop 10).map V.str)) nm2
    refine ⟨m1, m2, _, _, rfl, rfl, st2 _ _ upd_same, upd_same, (by show 10 + 5 ≤ sizeLine; decide), fun m3 nm3 => ?_⟩
    have st3 := same_upd (o := HO.lst (eNames.map V.str)) nm3
    have hkm := (st1.trans (st2.trans st3)) _ _ hk
    obtain ⟨p1, p2, p3, p4⟩ := eName_plain i hi
    refine ⟨_, rfl, .inl ⟨rfl, _, SqL.of hkm⟩, l4, _, .bl true, i, .bl (decide (i = i)), rfl, rfl, SqL.of hkm, rfl, kinds_flat i, kinds_at e15.lt, by simp [eqV], fun m z hm hz2 => ?_, m3, eNames.map V.str, (i : Nat), _, rfl, rfl, SqL.of upd_same, atI_nat (eName_at e15.lt), ?_⟩
    · rw [kinds_at (by omega)] at hz2
      obtain rfl := Option.some.inj hz2
      rw [decide_eq_false (by omega)]
      rfl
    refine ⟨_, rfl, rfl, _, rfl, ?_⟩
    rw [decide_eq_false fun z => p1 (V.str.inj z)]
    refine iteF ⟨_, rfl, rfl, _, rfl, ?_⟩
    rw [decide_eq_false fun z => p2 (V.str.inj z)]
    refine iteF ⟨_, rfl, _, rfl, (by show 2 ≤ sizeLine; decide), fun m4 nm4 => ⟨m4, _, rfl, .inl (SqL.of upd_same), rfl, rfl, _, rfl, ?_⟩⟩
    have ev : inV (.str (eName i)) [.str "code", .str "operation"] = false := by
      unfold inV
      rw [List.any_cons, List.any_cons, List.any_nil]
      show ((("code" : Str) == eName i) || ((("operation" : Str) == eName i) || false)) = false
      rw [beq_eq_false_iff_ne.mpr (Ne.symm p3), beq_eq_false_iff_ne.mpr (Ne.symm p4)]
      rfl
    rw [ev]
    have st4 := same_upd (o := HO.lst [.str "code", .str "operation"]) nm4
    exact iteF ⟨(by show 2 ≤ sizeLine; decide), fun u nu => hq u _ (sm4.trans (st1.trans (st2.trans (st3.trans (st4.trans (same_upd nu)))))) upd_same⟩
  · refine ⟨fun cls d H' => ∃ D i, cls = .ref D ∧ d = none ∧ Err15 X.K CP c D i ∧ i < 11 ∧ ∀ u H'', Same H' H'' → H'' u = some (.tup [.str (eName i), .int 0]) → Q (.ref u) H'', fun cls d σ' H' hx => ?_, rfl, h⟩
    obtain ⟨D, i, rfl, rfl, e15, hi, hq⟩ := hx
    exact ⟨true, e15.ex, fun _ a _ => ⟨D, i, rfl, rfl, e15, hi, ⟨_, rfl⟩, hq⟩, fun z => by cases z⟩
theorem err_gives {q : Str} {g CP : Addr} {cdg : Value} {c : Nat → Addr} {k : Nat} (M : ErrM X.mg CP c) (B : Blt X.mg) (hr : Room (k + 2) X.A) :
    GivesTo X N_l_error_of "_law_error_of" (defScope s_l_error_of) g cdg (defBody s_l_error_of) "_law_call" q (TTerr X.K CP c) := by
  intro f c' s H Q tl act hc h
  exact err_core M B hr (tl := fun E HZ Q' => HZ c' = some (CodeO c' q) ∧ tl E HZ Q') (fun W pn xe E p1 p2 tk hW => act W pn xe E p1 p2 tk hW) ⟨hc, h⟩
end
/-! ### what the end tells of the error classes -/
section
variable {K : PySem.W.Frag}
theorem kit_mk {t c : Addr} {b : Bool} (h1 : PySem.W.isClsIn K c = true) (h2 : PySem.W.typeIn K (.ref c) = some (.type "type")) (h3 : PySem.W.subIn K (.ref t) (.ref c) = some b) (h4 : b = true ∨ t ≠ c) : PySem.W.kitOne K (.ref t) (.ref c) = some b := by
  unfold PySem.W.kitOne
  by_cases e : (Value.ref t == Value.ref c) = true
  · rw [if_pos e]
    rcases h4 with z | z
    · rw [z]
    · exact absurd (by simpa using e) z
  · rw [if_neg e]
    have e2 : ((PySem.W.clsIn K c).isSome && PySem.W.typeIn K (.ref c) == some (.type "type")) = true := by
      have h1' : (PySem.W.clsIn K c).isSome = true := h1
      rw [h1', h2] <;> rfl
    show (if ((PySem.W.clsIn K c).isSome && PySem.W.typeIn K (.ref c) == some (.type "type")) = true then PySem.W.subIn K (.ref t) (.ref c) else none) = some b
    rw [if_pos e2]
    exact h3
theorem kit_ve {t : Addr} (h : PySem.W.subIn K (.ref t) (.type "ValueError") = some true) : PySem.W.kitOne K (.ref t) (.type "ValueError") = some true := by
  unfold PySem.W.kitOne
  rw [if_neg (by simp)]
  show (if PySem.W.kitMeta "ValueError" = true then PySem.W.subIn K (.ref t) (.type "ValueError") else none) = some true
  rw [if_pos (by decide +kernel)]
  exact h
theorem exm_mk {t c : Addr} (h0 : PySem.W.subIn K (.ref c) (.type "BaseException") = some true) (h1 : PySem.W.isClsIn K c = true) (h2 : PySem.W.typeIn K (.ref c) = some (.type "type")) (h3 : PySem.W.subIn K (.ref t) (.ref c) = some true) : PySem.W.exmOne K (.ref t) (.ref c) = some true := by
  have e1 : (PySem.W.subIn K (.ref c) (.type "BaseException") == some true) = true := by rw [h0] <;> rfl
  have e2 : ((PySem.W.clsIn K c).isSome && PySem.W.typeIn K (.ref c) == some (.type "type")) = true := by
    have h1' : (PySem.W.clsIn K c).isSome = true := h1
    rw [h1', h2] <;> rfl
  show (if (PySem.W.subIn K (.ref c) (.type "BaseException") == some true) = true then (if ((PySem.W.clsIn K c).isSome && PySem.W.typeIn K (.ref c) == some (.type "type")) = true then PySem.W.subIn K (.ref t) (.ref c) else none) else none) = some true
  rw [if_pos e1, if_pos e2]
  exact h3
theorem err15_mk {CP D : Addr} {c : Nat → Addr} {i : Nat} (lt : i < 15) (cl : ExcC K D) (ex : PySem.W.exmOne K (.ref D) (.ref CP) = some true) (ve : PySem.W.subIn K (.ref D) (.type "ValueError") = some true) (self : c i = D)
    (h : ∀ j, j < 15 → PySem.W.isClsIn K (c j) = true ∧ PySem.W.typeIn K (.ref (c j)) = some (.type "type") ∧ PySem.W.subIn K (.ref D) (.ref (c j)) = some (decide (j = i))) : Err15 K CP c D i := by
  refine ⟨lt, cl, ex, fun j hj => ?_, kit_ve ve⟩
  obtain ⟨h1, h2, h3⟩ := h j hj
  refine kit_mk h1 h2 h3 ?_
  by_cases e : j = i
  · exact .inl (decide_eq_true e)
  · refine .inr fun z => ?_
    obtain ⟨_, _, g⟩ := h i lt
    rw [self, decide_eq_true rfl] at g
    rw [← z, decide_eq_false e, g] at h3
    cases h3
end
/-! ### the errors as data -/
def errD2 (i : Nat) : PyData := .tuple [.str (eName i), .int 0]
theorem errD2_shaped : ∀ i, i < 15 → PySem.SeqAt.shaped (errD2 i) = true := by decide +kernel
theorem eqv_selfN {d : PyData} (h : PySem.SeqAt.shaped d = true) : (!PyData.eqv d d) = false := by rw [PySem.SeqAt.eqv_refl _ (PySem.SeqAt.canLay_of_shaped h)]; rfl
/-! ### cells that a callee may see: known objects in the abstract heap, for the time of a call -/
section
open PySem.Spec PyProof.Rows
/-- an object that is known as it stands -/
def Ex (o : Obj) : HO := .frz o (.ext fun _ => True)
abbrev Cells := List (Addr × Obj)
def rev (cs : Cells) (H : Hp) : Hp := fun b => match cs.lookup b with
  | some o => some (Ex o)
  | none => H b
def hid (cs : Cells) (H : Hp) : Hp := fun b => match cs.lookup b with
  | some _ => none
  | none => H b
variable {cs : Cells} {H H' H2 : Hp} {b : Addr} {o : Obj}
theorem rev_in (e : cs.lookup b = some o) : rev cs H b = some (Ex o) := by unfold rev; rw [e]
theorem rev_out (e : cs.lookup b = none) : rev cs H b = H b := by unfold rev; rw [e]
theorem hid_in (e : cs.lookup b = some o) : hid cs H b = none := by unfold hid; rw [e]
theorem hid_out (e : cs.lookup b = none) : hid cs H b = H b := by unfold hid; rw [e]
theorem ex_ne_ext {o : Obj} {φ : Heap → Prop} : Ex o ≠ .ext φ := fun z => by cases z
theorem ex_at {P : Program} {w : World} {h : Heap} (x : HOk P w H h) (e : H b = some (Ex o)) : h.get? b = some o := by
  have z : ObjOk P w H h b (.frz o (.ext fun _ => True)) := x b _ e
  exact z.1
theorem ex_ok {P : Program} {w : World} {h : Heap} (e : h.get? b = some o) : ObjOk P w H h b (Ex o) := ⟨e, trivial, ⟨o, e⟩, fun _ _ _ _ => trivial⟩
/-- which addresses the cells have, and that they are out of the way -/
structure Out (cs : Cells) (H : Hp) (h : Heap) : Prop where
  at_ : ∀ b o, cs.lookup b = some o → h.get? b = some o
  no : ∀ b o, cs.lookup b = some o → H b = none
theorem Out.notIn {h : Heap} (c : Out cs H h) {u : HO} (e : H b = some u) : cs.lookup b = none := by
  cases q : cs.lookup b with
  | none => rfl
  | some o => rw [c.no b o q] at e; cases e
theorem rev_hok {P : Program} {w : World} {h : Heap} (x : HOk P w H h) (c : Out cs H h) : HOk P w (rev cs H) h := fun b u e => by
  cases q : cs.lookup b with
  | some o =>
    rw [rev_in q] at e
    cases e
    exact ex_ok (c.at_ b o q)
  | none =>
    rw [rev_out q] at e
    exact (x b u e).stay (fun _ _ _ z => z) (fun d z => by rw [rev_out (c.notIn z)]; exact z) fun d xs z => by rw [rev_out (c.notIn z)]; exact z
/-- the cells are seen -/
def Seen (cs : Cells) (H : Hp) : Prop := ∀ b o, cs.lookup b = some o → H b = some (Ex o)
theorem Seen.notIn (c : Seen cs H) {u : HO} (e : H b = some u) (n : ∀ o, u ≠ Ex o) : cs.lookup b = none := by
  cases q : cs.lookup b with
  | none => rfl
  | some o =>
    rw [c b o q] at e
    exact absurd (Option.some.inj e).symm (n o)
theorem seen_rev : Seen cs (rev cs H) := fun b o e => rev_in e
theorem hid_hok {P : Program} {w : World} {h : Heap} (x : HOk P w H h) (c : Seen cs H) : HOk P w (hid cs H) h := fun b u e => by
  cases q : cs.lookup b with
  | some o => rw [hid_in q] at e; cases e
  | none =>
    rw [hid_out q] at e
    exact (x b u e).stay (fun _ _ _ z => z) (fun d z => by rw [hid_out (c.notIn z fun o y => by cases y)]; exact z) fun d xs z => by rw [hid_out (c.notIn z fun o y => by cases y)]; exact z
theorem Seen.un {fs ex : List Addr} {h h' : Heap} (c : Seen cs H) (u : Un fs ex H H' h h') : Seen cs H' := fun b o e => u.frzs _ _ _ (c b o e)
theorem rev_env0 {P : Program} {w : World} {K : PySem.W.Frag} {mg : Str → Option Value} {base : Heap} {A : Around} {outer : List Env} {s : Shared} (e0 : Env0 P w K mg base A outer s H) (c : Out cs H s.heap) (nb : ∀ b o, cs.lookup b = some o → base.get? b = none) (nf : ∀ b o, cs.lookup b = some o → b ∉ frs outer) :
    Env0 P w K mg base A outer s (rev cs H) where
  frames := e0.frames
  mod := e0.mod
  bs := fun b o e => by
    obtain ⟨h1, h2⟩ := e0.bs b o e
    refine ⟨h1, ?_⟩
    cases q : cs.lookup b with
    | some o' => rw [nb b o' q] at e; cases e
    | none => rw [rev_out q]; exact h2
  bsz := e0.bsz
  funs := e0.funs
  frf := fun b hb => by
    cases q : cs.lookup b with
    | some o' => exact absurd hb (nf b o' q)
    | none => rw [rev_out q]; exact e0.frf b hb
  hok := rev_hok e0.hok c
  bare := e0.bare
theorem hid_env0 {P : Program} {w : World} {K : PySem.W.Frag} {mg : Str → Option Value} {base : Heap} {A : Around} {outer : List Env} {s : Shared} (e0 : Env0 P w K mg base A outer s H) (c : Seen cs H) : Env0 P w K mg base A outer s (hid cs H) where
  frames := e0.frames
  mod := e0.mod
  bs := fun b o e => by
    obtain ⟨h1, h2⟩ := e0.bs b o e
    refine ⟨h1, ?_⟩
    cases q : cs.lookup b with
    | some o' => exact hid_in q
    | none => rw [hid_out q]; exact h2
  bsz := e0.bsz
  funs := e0.funs
  frf := fun b hb => by
    cases q : cs.lookup b with
    | some o' => exact hid_in q
    | none => rw [hid_out q]; exact e0.frf b hb
  hok := hid_hok e0.hok c
  bare := e0.bare
/-- behind a call that saw the cells -/
theorem ce_hid {P : Program} {w : World} {outer : List Env} {s s' : Shared} {Q : VK} {u : Value} (c : Out cs H s.heap) (nf : ∀ b o, cs.lookup b = some o → b ∉ frs outer) (h : CE outer P w (rev cs H) s (fun v H2 => Q v (hid cs H2)) u s') : CE outer P w H s Q u s' := by
  obtain ⟨v, H2, os, bare, un, hok, r, q⟩ := h
  have sn : Seen cs H2 := seen_rev.un un
  refine ⟨v, hid cs H2, os, bare, ⟨fun b o e n hb hx => ?_, fun b o e n hb hx => ?_, fun b o e n hx => ?_, fun b o e hx => un.there b o e hx, fun b xs e => ?_, fun b o y e => ?_, fun b ps e => ?_⟩, hid_hok hok sn, r, q⟩
  · cases z : cs.lookup b with
    | some o' =>
      rw [c.at_ b o' z] at e
      cases e
      exact ex_at hok (sn b _ z)
    | none => exact un.keep b o e (by rw [rev_out z]; exact n) hb hx
  · cases z : cs.lookup b with
    | some o' => exact absurd hb (nf b o' z)
    | none => exact un.slot b o e (by rw [rev_out z]; exact n) hb hx
  · cases z : cs.lookup b with
    | some o' => exact hid_in z
    | none =>
      rw [hid_out z]
      exact un.free b o e (by rw [rev_out z]; exact n) hx
  · have z := c.notIn e
    rw [hid_out z]
    exact un.tups b xs (by rw [rev_out z]; exact e)
  · have z := c.notIn e
    rw [hid_out z]
    exact un.frzs b o y (by rw [rev_out z]; exact e)
  · have z := c.notIn e
    rw [hid_out z]
    exact un.tbls b ps (by rw [rev_out z]; exact e)
/-- behind a body that owns the cells -/
theorem un_rev {fs : List Addr} {h h' : Heap} (c : Seen cs H) (u : Un fs [] (hid cs H) H' h h') : Un fs [] H (rev cs H') h h' := by
  have no : ∀ {b : Addr}, H b = none → cs.lookup b = none := fun {b} n => by
    cases z : cs.lookup b with
    | none => rfl
    | some o => rw [c b o z] at n; cases n
  refine ⟨fun b o e n hb hx => ?_, fun b o e n hb hx => ?_, fun b o e n hx => ?_, fun b o e hx => u.there b o e hx, fun b xs e => ?_, fun b o y e => ?_, fun b ps e => ?_⟩
  · exact u.keep b o e (by rw [hid_out (no n)]; exact n) hb hx
  · exact u.slot b o e (by rw [hid_out (no n)]; exact n) hb hx
  · rw [rev_out (no n)]
    exact u.free b o e (by rw [hid_out (no n)]; exact n) hx
  · have z := c.notIn e fun o y => by cases y
    rw [rev_out z]
    exact u.tups b xs (by rw [hid_out z]; exact e)
  · cases z : cs.lookup b with
    | some o' =>
      rw [c b o' z] at e
      rw [rev_in z]
      exact e
    | none =>
      rw [rev_out z]
      exact u.frzs b o y (by rw [hid_out z]; exact e)
  · have z := c.notIn e fun o y => by cases y
    rw [rev_out z]
    exact u.tbls b ps (by rw [hid_out z]; exact e)
theorem out_un {fs : List Addr} {P : Program} {w : World} {h h' : Heap} (hok : HOk P w H h) (c : Seen cs H) (nf : ∀ b o, cs.lookup b = some o → b ∉ fs) (u : Un fs [] (hid cs H) H' h h') : Out cs H' h' :=
  ⟨fun b o e => u.keep b o (ex_at hok (c b o e)) (hid_in e) (nf b o e) (by simp), fun b o e => u.free b o (ex_at hok (c b o e)) (hid_in e) (by simp)⟩
theorem ce_rev {P : Program} {w : World} {outer : List Env} {s s' : Shared} {Q : VK} {u : Value} (hok : HOk P w H s.heap) (c : Seen cs H) (nf : ∀ b o, cs.lookup b = some o → b ∉ frs outer) (h : CE outer P w (hid cs H) s (fun v H2 => Q v (rev cs H2)) u s') : CE outer P w H s Q u s' := by
  obtain ⟨v, H2, os, bare, un, hok2, r, q⟩ := h
  exact ⟨v, rev cs H2, os, bare, un_rev c un, rev_hok hok2 (out_un hok c nf un), r, q⟩
theorem cx_rev {P : Program} {w : World} {outer : List Env} {s s' : Shared} {E : XK} {u : Value} (hok : HOk P w H s.heap) (c : Seen cs H) (nf : ∀ b o, cs.lookup b = some o → b ∉ frs outer) (h : L2.CX P w outer (hid cs H) s (fun cls d H2 => E cls d (rev cs H2)) u s') : L2.CX P w outer H s E u s' := by
  obtain ⟨a, B, H2, cls, d, e0, fl, hok2, ub, na, os, ag, hE⟩ := h
  have no : ∀ {b : Addr}, H b = none → cs.lookup b = none := fun {b} n => by
    cases z : cs.lookup b with
    | none => rfl
    | some o => rw [c b o z] at n; cases n
  have atB : ∀ b o, cs.lookup b = some o → B.get? b = some o := fun b o e => ub.keep b o (ex_at hok (c b o e)) (hid_in e) (nf b o e)
  have out : Out cs H2 B := ⟨atB, fun b o e => ub.free b o (ex_at hok (c b o e)) (hid_in e)⟩
  have nk : cs.lookup a = none := by
    cases z : cs.lookup a with
    | none => rfl
    | some o =>
      have h1 := atB a o z
      rw [fl.2.1] at h1
      cases h1
  refine ⟨a, B, rev cs H2, cls, d, e0, fl, rev_hok hok2 out, ⟨fun b o e n hb => ?_, fun b o e hb => ub.slot b o e hb, fun b o e n => ?_, fun b o e hb => ub.there b o e hb, fun b xs e => ?_, fun b o y e => ?_, fun b ps e => ?_⟩, by rw [rev_out nk]; exact na, os, ag, hE⟩
  · exact ub.keep b o e (by rw [hid_out (no n)]; exact n) hb
  · rw [rev_out (no n)]
    exact ub.free b o e (by rw [hid_out (no n)]; exact n)
  · have z := c.notIn e fun o y => by cases y
    rw [rev_out z]
    exact ub.tups b xs (by rw [hid_out z]; exact e)
  · cases z : cs.lookup b with
    | some o' =>
      rw [c b o' z] at e
      rw [rev_in z]
      exact e
    | none =>
      rw [rev_out z]
      exact ub.frzs b o y (by rw [hid_out z]; exact e)
  · have z := c.notIn e fun o y => by cases y
    rw [rev_out z]
    exact ub.tbls b ps (by rw [hid_out z]; exact e)
/-! what the law's proof needs of them -/
theorem same_hid (n : ∀ b o, cs.lookup b = some o → H b = none) (s : Same (rev cs H) H') : Same H (hid cs H') := fun b u e => by
  have z : cs.lookup b = none := by
    cases q : cs.lookup b with
    | none => rfl
    | some o => rw [n b o q] at e; cases e
  rw [hid_out z]
  exact s b u (by rw [rev_out z]; exact e)
theorem same_rev (c : Seen cs H') (s : Same (hid cs H') H2) : Same H' (rev cs H2) := fun b u e => by
  cases q : cs.lookup b with
  | some o =>
    rw [c b o q] at e
    rw [rev_in q]
    exact e
  | none =>
    rw [rev_out q]
    exact s b u (by rw [hid_out q]; exact e)
theorem Seen.same (c : Seen cs H) (s : Same H H') : Seen cs H' := fun b o e => s _ _ (c b o e)
theorem rev_up {cs : Cells} {b : Addr} {u : HO} (no : ∀ b o, cs.lookup b = some o → H b = none) (e : H b = some u) : rev cs H b = some u := by
  have z : cs.lookup b = none := by
    cases w : cs.lookup b with
    | none => rfl
    | some o => rw [no b o w] at e; cases e
  rw [rev_out z]
  exact e
end
/-! ### lambdas as values -/
section
open PySem.Spec PyProof.Rows
open LamX (lamEnv lamCx CodeO Tabs TabS ExtN TabB)
/-- the names of a lambda: no cell of its own; its parameters are not names of the maker -/
structure LamSc (N : List Str) (sc scope : Scope) : Prop where
  kind : scope.kind = .function
  co : scope.isCoroutine = false
  gen : scope.isGenerator = false
  own : ∀ y ∈ scope.names, y.2 ≠ .cell ∧ (y.2 = .local → y.1 ∉ N)
  free : ∀ y ∈ scope.names, y.2 = .free → sc.names.lookup y.1 = some .cell ∨ sc.names.lookup y.1 = some .free
def lamScB (N : List Str) (sc scope : Scope) : Bool :=
  decide (scope.kind = .function) && !scope.isCoroutine && !scope.isGenerator && scope.names.all fun y => !decide (y.2 = .cell) && (!decide (y.2 = .local) || decide (y.1 ∉ N)) && (!decide (y.2 = .free) || decide (sc.names.lookup y.1 = some .cell) || decide (sc.names.lookup y.1 = some .free))
theorem lamSc_by {N : List Str} {sc scope : Scope} (h : lamScB N sc scope = true) : LamSc N sc scope := by
  unfold lamScB at h
  simp only [Bool.and_eq_true, Bool.or_eq_true, Bool.not_eq_true', decide_eq_true_eq, decide_eq_false_iff_not, List.all_eq_true] at h
  obtain ⟨⟨⟨h1, h2⟩, h3⟩, h4⟩ := h
  refine ⟨h1, h2, h3, fun y hy => ⟨(h4 y hy).1.1, fun e => ?_⟩, fun y hy e => ?_⟩
  · rcases (h4 y hy).1.2 with z | z
    · exact absurd e z
    · exact z
  · rcases (h4 y hy).2 with (z | z) | z
    · exact absurd e z
    · exact .inl z
    · exact .inr z
/-- the cells of the maker's frame, as they stand -/
structure CellsFit (X : Cx) (σ : L2.St) (cs : Cells) : Prop where
  all : ∀ x c, X.env.cells.lookup x = some c → ∃ o v, cs.lookup c = some o ∧ o.data = .cell v
  val : ∀ (i : Nat) x v, X.N[i]? = some x → σ[i]? = some (some v) → Vis X.env.scope x → X.env.kindOf x ≠ some .local → ∃ c o u, X.env.cells.lookup x = some c ∧ cs.lookup c = some o ∧ o.data = .cell (some u) ∧ RelV v u
  inj : ∀ x y c, X.env.cells.lookup x = some c → X.env.cells.lookup y = some c → x = y
  has : ∀ x, (X.env.kindOf x = some .cell ∨ X.env.kindOf x = some .free) → ∃ c, X.env.cells.lookup x = some c
  len : σ.length = X.N.length
theorem lookup_fm {α β : Type} [BEq α] [LawfulBEq α] {g : Str → Option (α × β)} {v : α → Option β} (hg : ∀ x p, g x = some p → v p.1 = some p.2) : ∀ (l : List Str) (a : α) (b : β), (l.filterMap g).lookup a = some b → v a = some b ∧ ∃ x ∈ l, g x = some (a, b)
  | [], _, _, h => by cases h
  | x :: l, a, b, h => by
    cases q : g x with
    | none =>
      rw [List.filterMap_cons, q] at h
      obtain ⟨h1, y, hy, h2⟩ := lookup_fm hg l a b h
      exact ⟨h1, y, List.mem_cons_of_mem _ hy, h2⟩
    | some p =>
      obtain ⟨a', b'⟩ := p
      rw [List.filterMap_cons, q] at h
      by_cases e : a = a'
      · subst e
        have hb : (a == a) = true := beq_self_eq_true a
        rw [List.lookup_cons, hb] at h
        cases h
        exact ⟨hg x _ q, x, List.mem_cons_self, q⟩
      · have hb : (a == a') = false := beq_eq_false_iff_ne.mpr e
        rw [List.lookup_cons, hb] at h
        obtain ⟨h1, y, hy, h2⟩ := lookup_fm hg l a b h
        exact ⟨h1, y, List.mem_cons_of_mem _ hy, h2⟩
theorem lookup_fm_has {α β : Type} [BEq α] [LawfulBEq α] {g : Str → Option (α × β)} {v : α → Option β} (hg : ∀ x p, g x = some p → v p.1 = some p.2) : ∀ (l : List Str) (x : Str) (a : α) (b : β), x ∈ l → g x = some (a, b) → (l.filterMap g).lookup a = some b
  | [], _, _, _, h, _ => by cases h
  | y :: l, x, a, b, h, e => by
    have hv := hg x _ e
    have go : x ∈ l → (l.filterMap g).lookup a = some b := fun hm => lookup_fm_has hg l x a b hm e
    cases q : g y with
    | none =>
      rw [List.filterMap_cons, q]
      rcases List.mem_cons.mp h with rfl | hm
      · rw [q] at e; cases e
      · exact go hm
    | some p =>
      obtain ⟨a', b'⟩ := p
      rw [List.filterMap_cons, q]
      by_cases ea : a = a'
      · subst ea
        have hb : (a == a) = true := beq_self_eq_true a
        rw [List.lookup_cons, hb]
        have h2 : v a = some b' := hg y _ q
        exact h2.symm.trans hv
      · have hb : (a == a') = false := beq_eq_false_iff_ne.mpr ea
        rw [List.lookup_cons, hb]
        rcases List.mem_cons.mp h with rfl | hm
        · rw [q] at e
          cases e
          exact absurd rfl ea
        · exact go hm
section
variable {X : Cx} {pins : List (Addr × Obj)} {σ : L2.St} {H : Hp} {s : Shared}
theorem cells_fit (I : Inv X pins σ H s) (hfn : ∀ x, X.fn x = true) : ∃ cs, CellsFit X σ cs ∧ Out cs H s.heap ∧ (∀ b o, cs.lookup b = some o → X.base.get? b = none) ∧ ∀ b o, cs.lookup b = some o → b ∉ frs X.stack := by
  let g : Str → Option (Addr × Obj) := fun x => (X.env.cells.lookup x).bind fun c => (s.heap.get? c).map fun o => (c, o)
  have hg : ∀ x p, g x = some p → s.heap.get? p.1 = some p.2 := fun x p e => by
    obtain ⟨c, _, e2⟩ := Option.bind_eq_some_iff.mp e
    obtain ⟨o, h1, h2⟩ := Option.map_eq_some_iff.mp e2
    rw [← h2]
    exact h1
  have key : ∀ b o, ((X.env.cells.map (·.1)).filterMap g).lookup b = some o → s.heap.get? b = some o ∧ ∃ x, X.env.cells.lookup x = some b := fun b o e => by
    obtain ⟨h1, x, _, h2⟩ := lookup_fm hg _ b o e
    obtain ⟨c, e1, e2⟩ := Option.bind_eq_some_iff.mp h2
    obtain ⟨o', _, h3⟩ := Option.map_eq_some_iff.mp e2
    cases h3
    exact ⟨h1, x, e1⟩
  have has : ∀ x c o, X.env.cells.lookup x = some c → s.heap.get? c = some o → ((X.env.cells.map (·.1)).filterMap g).lookup c = some o := fun x c o e1 e2 =>
    lookup_fm_has hg _ x c o (List.mem_map.mpr ⟨(x, c), PySem.mem_of_lookup e1, rfl⟩) (by show (X.env.cells.lookup x).bind _ = _; rw [e1]; show (s.heap.get? c).map _ = _; rw [e2]; rfl)
  have low : ∀ b o, ((X.env.cells.map (·.1)).filterMap g).lookup b = some o → X.s_0.heap.objs.size ≤ b := fun b o e => by
    obtain ⟨_, x, e1⟩ := key b o e
    exact I.ok.cab x b (hfn x) e1
  refine ⟨_, ⟨fun x c e => ?_, fun i x v e1 e2 e3 e4 => ?_, I.ok.inj, I.ok.has, I.len⟩, ⟨fun b o e => (key b o e).1, fun b o e => ?_⟩, fun b o e => ?_, fun b o e hm => ?_⟩
  · obtain ⟨v, o, h1, h2⟩ := I.cell x c e
    exact ⟨o, v, has x c o e h1, h2⟩
  · obtain ⟨m, _, hl⟩ := I.loc
    obtain ⟨u, r, lk⟩ := hl i x v e1 e2 e3
    rcases lk with ⟨k, _⟩ | ⟨_, c, h1, o, h2, h3⟩
    · exact absurd k e4
    · exact ⟨c, o, u, h1, has x c o h1 h2, h3, r⟩
  · obtain ⟨_, x, e1⟩ := key b o e
    exact I.freeC x b e1
  · cases q : X.base.get? b with
    | none => rfl
    | some o' => exact absurd (Nat.lt_of_lt_of_le (Heap.lt_size q) (Nat.le_trans I.ok.bsz (low b o e))) (Nat.lt_irrefl _)
  · obtain ⟨_, x, e1⟩ := key b o e
    rcases List.mem_cons.mp (I.stkSub b hm) with z | z
    · exact I.cne x b e1 z
    · obtain ⟨_, o', ho, _⟩ := I.ok.funs.mem z
      exact absurd (Nat.lt_of_lt_of_le (Heap.lt_size ho) (low b o e)) (Nat.lt_irrefl _)
end
end
section
open PySem.Spec PyProof.Rows
open LamX (lamEnv lamCx CodeO Tabs TabS ExtN TabB)
/-- what a call of the value at f does, as long as all that stands stays -/
structure LamVal (P : Program) (w : World) (K : PySem.W.Frag) (mg : Str → Option Value) (base : Heap) (j : Nat) (H : Hp) (f : Addr) (tl : XK → Hp → VK → Prop) : Prop where
  ob : ∃ a b c d, H f = some (Ex ⟨a, b, .func c, d⟩)
  run : ∀ (A : Around) (outer : List Env) (s : Shared) (H' : Hp) (Q : VK) (E : XK), Room j A → Env0 P w K mg base A outer s H' → Same H H' → tl E H' Q → codeAny (model P w) A (.call (.ref f) ⟨[], []⟩) (CR (L2.CX P w) outer P w H' s Q E) s
theorem LamVal.same {P : Program} {w : World} {K : PySem.W.Frag} {mg : Str → Option Value} {base : Heap} {j : Nat} {H H1 : Hp} {f : Addr} {tl : XK → Hp → VK → Prop} (L : LamVal P w K mg base j H f tl) (s : Same H H1) : LamVal P w K mg base j H1 f tl :=
  ⟨let ⟨a, b, c, d, e⟩ := L.ob; ⟨a, b, c, d, s _ _ e⟩, fun A outer st H' Q E hr e0 s' => L.run A outer st H' Q E hr e0 (s.trans s')⟩
abbrev lamObj (X : Cx) (params : Arguments) (body : Expr) (scope : Scope) (dV doc pm : Value) (c' : Addr) (ctv : Value) : Obj :=
  PySem.W.kdv_obj "<lambda>" (X.env.qual ++ "<lambda>") params (.expr body) scope (cloFrom X.env.cells scope.names []) dV doc pm c' ctv
section
variable {X : Cx} {cs : Cells} {σ : L2.St} {H : Hp} {s : Shared}
theorem lamv_start {A : Around} {outer : List Env} {E : XK} {scope : Scope} {f c' : Addr} {h₁ : Heap} {tk : Nat} {binds : List (Str × Value)} (fit : CellsFit X σ cs) (L : LamSc X.N X.env.scope scope) (e0 : Env0 X.prog X.w X.K X.mg X.base A outer s H) (sn : Seen cs H) (hd : A.handled = none)
    (hns : h₁.Ns s.heap.objs.size fun y => binds.reverse.lookup y) (kp : ∀ b o, s.heap.get? b = some o → h₁.get? b = some o) :
    Inv (lamCx X A outer s (hid cs H) E scope f c') [] σ (hid cs H) { s with heap := h₁, toks := tk } := by
  have d0 := hid_env0 e0 sn
  have free : ∀ {y : Str}, scope.names.lookup y = some .free → ∃ c, (cloFrom X.env.cells scope.names []).lookup y = some c := fun {y} e => mem_lookup (cloFrom_has (cells := X.env.cells) (acc := []) (PySem.mem_of_lookup e))
  have back : ∀ {y : Str} {c : Addr}, (cloFrom X.env.cells scope.names []).lookup y = some c → X.env.cells.lookup y = some c := fun {y c} e => by
    rcases cloFrom_mem (PySem.mem_of_lookup e) with z | ⟨z1, z2⟩
    · cases z
    · obtain ⟨c1, h1⟩ : ∃ c, X.env.cells.lookup y = some c := (L.free _ z1 rfl).elim (fun k => fit.has y (.inl k)) fun k => fit.has y (.inr k)
      rw [z2, h1]
      rfl
  have cell : ∀ {b : Addr} {o : Obj} {v : Option Value}, cs.lookup b = some o → o.data = .cell v → h₁.IsCell b v := fun {b o v} e d => ⟨o, kp _ _ (ex_at e0.hok (sn b o e)), d⟩
  have none_ : ∀ {b : Addr}, b ∈ ([] : List Addr) → False := fun z => nomatch z
  refine ⟨⟨d0.mod, L.kind, rfl, rfl, Nat.le_refl _, fun y z c e1 e2 => fit.inj y z c (back e1) (back e2), fun y hy => ?_, fun y c z _ => (nomatch (show false = true from z)), fun _ => hd, Around.frames_deeper d0.frames, .inr ⟨rfl, rfl⟩, fun b z => (none_ z).elim, d0.bs, d0.bsz, fun b _ _ z => none_ z, fun b z => (none_ z).elim, d0.funs, d0.frf⟩,
    rfl, d0.bare, Un.kept kp, ⟨_, hns, fun i y v e1 e2 e3 => ?_⟩, fun y c e => ?_, d0.hok.fresh (Nat.le_refl _), fun y c e => ?_, fun q hq => (nomatch (show q ∈ ([] : List (Addr × Obj)) ++ [] from hq)), d0.hok.kept kp, fit.len⟩
  · have hy : scope.names.lookup y = some .cell ∨ scope.names.lookup y = some .free := hy
    rcases hy with hy | hy
    · exact absurd rfl (L.own _ (PySem.mem_of_lookup hy)).1
    · exact free hy
  · have e3 : Vis scope y := e3
    rcases e3 with k | k | k
    · exact absurd (List.mem_of_getElem? e1) ((L.own _ (PySem.mem_of_lookup k)).2 rfl)
    · exact absurd rfl (L.own _ (PySem.mem_of_lookup k)).1
    · have kf := L.free _ (PySem.mem_of_lookup k) rfl
      have vis : Vis X.env.scope y := .inr kf
      have nl : X.env.kindOf y ≠ some .local := fun z => by
        have z : X.env.scope.names.lookup y = some .local := z
        rcases kf with q | q <;> rw [show X.env.scope.names.lookup y = _ from q] at z <;> cases z
      obtain ⟨c, o, u, h1, h2, h3, r⟩ := fit.val i y v e1 e2 vis nl
      obtain ⟨c2, h4⟩ := free k
      obtain rfl : c2 = c := Option.some.inj ((back h4).symm.trans h1)
      exact ⟨u, r, .inr ⟨.inr k, c2, h4, cell h2 h3⟩⟩
  · obtain ⟨o, v, h1, h2⟩ := fit.all y c (back e)
    exact ⟨v, cell h1 h2⟩
  · obtain ⟨o, v, h1, h2⟩ := fit.all y c (back e)
    exact hid_in h1
theorem lamv_run {k : Nat} {params : Arguments} {body : Expr} {scope : Scope} {f c' : Addr} {dV doc pm ctv : Value} {t : XK → TE} {A : Around} {outer : List Env} {Q : VK} {E : XK} (fit : CellsFit X σ cs) (L : LamSc X.N X.env.scope scope)
    (hbody : ∀ (A : Around) (outer : List Env) (s : Shared) (H : Hp) (E : XK) (f c' : Addr), Room k (A.deeper (lamEnv X scope s.heap.objs.size f c')) → PE (lamCx X A outer s H E scope f c') body (t E))
    (hr : Room (k + 1) A) (e0 : Env0 X.prog X.w X.K X.mg X.base A outer s H) (sn : Seen cs H) (hf : H f = some (Ex (lamObj X params body scope dV doc pm c' ctv))) (hc : H c' = some (CodeO c' (X.env.qual ++ "<lambda>")))
    (hb : ∃ binds, BindsTo s (PySem.W.kdv_fn "<lambda>" (X.env.qual ++ "<lambda>") params (.expr body) scope (cloFrom X.env.cells scope.names []) dV doc pm (.ref c') ctv) ⟨[], []⟩ binds ∧ ∀ y ∈ binds, scope.names.lookup y.1 = some .local)
    (h : t (fun cls d H2 => E cls d (rev cs H2)) σ (hid cs H) fun v H2 => Q v (rev cs H2)) :
    codeAny (model X.prog X.w) A (.call (.ref f) ⟨[], []⟩) (CR (L2.CX X.prog X.w) outer X.prog X.w H s Q E) s := by
  obtain ⟨binds, bt, bl⟩ := hb
  obtain ⟨⟨oc, vs, tq, h1, h2, h3⟩, _, _⟩ := e0.hok c' _ hc
  have nf : ∀ b o, cs.lookup b = some o → b ∉ frs outer := fun b o e z => by
    have q := e0.frf b z
    rw [sn b o e] at q
    cases q
  have rc : codeAny (model X.prog X.w) A (.call (.ref f) ⟨[], []⟩) (CR (L2.CX X.prog X.w) outer X.prog X.w (hid cs H) s (fun v H2 => Q v (rev cs H2)) fun cls d H2 => E cls d (rev cs H2)) s := by
    refine PySem.W.kla_callFunE hr.depth (ex_at e0.hok hf) rfl L.co L.gen rfl ⟨c', oc, vs, tq, rfl, h1, h2, h3⟩ (bt _ _ _ _ ?_)
    refine wpAny_newFunctionEnv (fun y hy => (L.own y hy).1) bl (fun h₁ hns sb => ⟨?_, ?_⟩) L.kind
    · exact (e0.mod.nolimit.keeps fun b o e => (e0.bs b o e).1).fresh _ sb
    show codeAny _ _ (.expr body (lamEnv X scope s.heap.objs.size f c')) _ _
    have kp : ∀ b o, s.heap.get? b = some o → h₁.get? b = some o := fun b o e => sb.extBut b o (Nat.ne_of_lt (Heap.lt_size e)) (Heap.get?_push_of_some _ e)
    have J := lamv_start (E := fun cls d H2 => E cls d (rev cs H2)) (scope := scope) (f := f) (c' := c') (tk := s.toks + binds.length) fit L e0 sn hr.hd hns kp
    refine PySem.W.kla_codeExpr (wpAny_mono ((hbody A outer s (hid cs H) _ f c' (hr.deeper _)).run [] _ _ (hid cs H) _ J h) (fun v s' hq => ?_) fun e s' hq => hq)
    obtain ⟨x, H2, J2, rv, q⟩ := hq
    exact ⟨x, H2, J2.os, J2.bare, J2.base, J2.hok, rv, q⟩
  refine codeAny_mono rc fun r s' hq => ?_
  cases r with
  | error e => exact cx_rev e0.hok sn nf hq
  | ok fl =>
    cases fl with
    | ret u => exact ce_rev e0.hok sn nf hq
    | next => exact False.elim hq
    | brk => exact False.elim hq
    | cont => exact False.elim hq
end
/-- x(), x a name that holds such a value -/
theorem pe_callLV {X : Cx} {j i : Nat} {H0 : Hp} {f : Addr} {tl : XK → Hp → VK → Prop} {E : XK} {a : Str} {p1 p2 : Pos} (L : LamVal X.prog X.w X.K X.mg X.base j H0 f tl) (hr : Room j X.A) (hx : Passes (L2.CX X.prog X.w) X E) (hN : X.N[i]? = some a) (hv : Vis X.env.scope a)
    (hd : (a == ("__debug__" : Str)) = false := by decide) (hcd : (a == ("__classdict__" : Str)) = false := by decide) : PE X (.Call (.Name a p1) [] [] p2) fun σ H Q => σ[i]? = some (some (.ref f)) ∧ Same H0 H ∧ tl E H Q := by
  refine ⟨fun pins s σ H Q I h => ?_⟩
  obtain ⟨hs, sm, ht⟩ := h
  refine wpAny_Call_Name_kw (thn ((pe_var (pos := p1) (i := i) hN hv hd hcd).run pins s σ H (fun v H1 => v = .ref f ∧ H1 = H) I ⟨.ref f, hs, rfl, rfl⟩) fun u s1 ⟨v, H1, I1, r1, e1, e2⟩ => ?_)
  subst e1 e2
  obtain rfl : u = Value.ref f := r1
  obtain ⟨o1, o2, o3, o4, ob⟩ := L.ob
  refine PySem.W.callWith_F0 ⟨_, _, _, _, ex_at I1.hok (sm _ _ ob)⟩ (wpAny_call (codeAny_mono (L.run X.A X.stack s1 H1 Q E hr I1.env0 sm ht) fun r s' hq => ?_))
  cases r with
  | error e => exact hx pins σ H1 s1 e s' I1 hq
  | ok fl =>
    cases fl with
    | ret u => exact I1.after hq
    | next => exact False.elim hq
    | brk => exact False.elim hq
    | cont => exact False.elim hq
end
section
open PySem.Spec PyProof.Rows
open LamX (lamEnv lamCx CodeO Tabs TabS ExtN TabB)
def Still : HO → Prop
  | .lst _ => False
  | .ins _ _ _ => False
  | .tbl _ => False
  | .dK _ => False
  | .dT _ => False
  | .set _ _ => False
  | .own _ => False
  | _ => True
/-- the value at f is a lambda that was made in X; t: how its body reads -/
def LamS (X : Cx) (t : XK → TE) (k : Nat) (H : Hp) (f : Addr) : Prop := ∃ es : List (Addr × HO), (∀ p ∈ es, H p.1 = some p.2 ∧ Still p.2) ∧
  ∀ (σ : L2.St) (H' : Hp) (cs : Cells), CellsFit X σ cs → (∀ b o, cs.lookup b = some o → H' b = none) → (∀ p ∈ es, H' p.1 = some p.2) →
    LamVal X.prog X.w X.K X.mg X.base (k + 1) (rev cs H') f fun E H2 Q => t (fun cls d H3 => E cls d (rev cs H3)) σ (hid cs H2) fun v H3 => Q v (rev cs H3)
section
variable {X : Cx} {pins : List (Addr × Obj)} {σ : L2.St} {H H' : Hp} {s : Shared} {t : XK → TE} {k : Nat} {f : Addr}
theorem LamS.keep (L : LamS X t k H f) (h : ∀ b o, H b = some o → Still o → H' b = some o) : LamS X t k H' f := by
  obtain ⟨es, h1, h2⟩ := L
  exact ⟨es, fun p hp => ⟨h _ _ (h1 p hp).1 (h1 p hp).2, (h1 p hp).2⟩, h2⟩
theorem LamS.same (L : LamS X t k H f) (s : Same H H') : LamS X t k H' f := L.keep fun b o e _ => s b o e
theorem LamS.extN (L : LamS X t k H f) (e : ExtN H H') : LamS X t k H' f := L.keep fun b o h n => e b o h fun ps z => by subst z; exact n
theorem LamS.but {d : Addr} {o : HO} (L : LamS X t k H f) (b : But d H H') (hd : H d = some o) (n : ¬ Still o) : LamS X t k H' f := L.keep fun a u e st => b a u (fun z => by
  rw [z, hd] at e
  cases e
  exact n st) e
theorem LamS.val (L : LamS X t k H f) {cs : Cells} (fit : CellsFit X σ cs) (no : ∀ b o, cs.lookup b = some o → H b = none) : LamVal X.prog X.w X.K X.mg X.base (k + 1) (rev cs H) f fun E H2 Q => t (fun cls d H3 => E cls d (rev cs H3)) σ (hid cs H2) fun v H3 => Q v (rev cs H3) := by
  obtain ⟨es, h1, h2⟩ := L
  exact h2 σ H cs fit no fun p hp => (h1 p hp).1
/-- the default's place: none, or a tuple of one nought -/
def DvAt (one : Bool) (dV : Value) (H : Hp) : Prop := if one = true then ∃ u, dV = .ref u ∧ H u = some (.tup [.int 0]) else dV = .none
/-- what binding a lambda's parameters asks: those that a call without arguments leaves -/
def DvBind (one : Bool) (params : Arguments) (body : Expr) (scope : Scope) : Prop := ∀ (q : Str) (cl : List (Str × Addr)) (dV doc pm cv ctv : Value) (s : Shared), (if one = true then ∃ u o tk n, dV = .ref u ∧ s.heap.get? u = some o ∧ o.data = .seq #[.int 0 tk] n else dV = .none) →
  ∃ binds, BindsTo s (PySem.W.kdv_fn "<lambda>" q params (.expr body) scope cl dV doc pm cv ctv) ⟨[], []⟩ binds ∧ ∀ y ∈ binds, scope.names.lookup y.1 = some .local
theorem lamS_mk {one : Bool} {params : Arguments} {body : Expr} {scope : Scope} {c' : Addr} {dV doc pm ctv : Value} (L : LamSc X.N X.env.scope scope) (hb : DvBind one params body scope)
    (hbody : ∀ (A : Around) (outer : List Env) (s : Shared) (H : Hp) (E : XK) (f c' : Addr), Room k (A.deeper (lamEnv X scope s.heap.objs.size f c')) → PE (lamCx X A outer s H E scope f c') body (t E))
    (hf : H f = some (Ex (lamObj X params body scope dV doc pm c' ctv))) (hc : H c' = some (CodeO c' (X.env.qual ++ "<lambda>"))) (hd : DvAt one dV H) : LamS X t k H f := by
  have fin : ∀ (es : List (Addr × HO)), (f, Ex (lamObj X params body scope dV doc pm c' ctv)) ∈ es → (c', CodeO c' (X.env.qual ++ "<lambda>")) ∈ es → (∀ H2 : Hp, (∀ p ∈ es, H2 p.1 = some p.2) → DvAt one dV H2) →
      ∀ (σ : L2.St) (H' : Hp) (cs : Cells), CellsFit X σ cs → (∀ b o, cs.lookup b = some o → H' b = none) → (∀ p ∈ es, H' p.1 = some p.2) →
        LamVal X.prog X.w X.K X.mg X.base (k + 1) (rev cs H') f fun E H2 Q => t (fun cls d H3 => E cls d (rev cs H3)) σ (hid cs H2) fun v H3 => Q v (rev cs H3) := fun es m1 m2 m3 σ H' cs fit no hes => by
    have up : ∀ p ∈ es, rev cs H' p.1 = some p.2 := fun p hp => by
      have z : cs.lookup p.1 = none := by
        cases q : cs.lookup p.1 with
        | none => rfl
        | some o =>
          have h1 := hes p hp
          rw [no _ _ q] at h1
          cases h1
      rw [rev_out z]
      exact hes p hp
    refine ⟨⟨_, _, _, _, up _ m1⟩, fun A outer s H2 Q E hr e0 sm h => ?_⟩
    have e2 : ∀ p ∈ es, H2 p.1 = some p.2 := fun p hp => sm _ _ (up p hp)
    refine lamv_run fit L hbody hr e0 (seen_rev.same sm) (e2 _ m1) (e2 _ m2) (hb _ _ _ _ _ _ _ s ?_) h
    have dv := m3 H2 e2
    unfold DvAt at dv
    cases one with
    | false =>
      rw [if_neg Bool.false_ne_true] at dv ⊢
      exact dv
    | true =>
      rw [if_pos rfl] at dv ⊢
      obtain ⟨u, rfl, hu⟩ := dv
      obtain ⟨_, its, rv, o, e, cl, n, dat⟩ := e0.hok u _ hu
      cases rv with
      | cons r rr =>
        cases rr
        obtain ⟨tk, rfl⟩ := r
        exact ⟨u, o, tk, n, rfl, e, dat⟩
  unfold DvAt at hd
  cases one with
  | false =>
    rw [if_neg Bool.false_ne_true] at hd
    refine ⟨[(f, Ex (lamObj X params body scope dV doc pm c' ctv)), (c', CodeO c' (X.env.qual ++ "<lambda>"))], fun p hp => ?_, fin _ (by simp) (by simp) fun _ _ => ?_⟩
    · rcases List.mem_cons.mp hp with rfl | hp
      · exact ⟨hf, trivial⟩
      · rw [List.mem_singleton.mp hp]
        exact ⟨hc, by unfold CodeO; exact trivial⟩
    · unfold DvAt
      rw [if_neg Bool.false_ne_true]
      exact hd
  | true =>
    rw [if_pos rfl] at hd
    obtain ⟨u, e, hu⟩ := hd
    refine ⟨[(f, Ex (lamObj X params body scope dV doc pm c' ctv)), (c', CodeO c' (X.env.qual ++ "<lambda>")), (u, .tup [.int 0])], fun p hp => ?_, fin _ (by simp) (by simp) fun H2 h2 => ?_⟩
    · rcases List.mem_cons.mp hp with rfl | hp
      · exact ⟨hf, trivial⟩
      · rcases List.mem_cons.mp hp with rfl | hp
        · exact ⟨hc, by unfold CodeO; exact trivial⟩
        · rw [List.mem_singleton.mp hp]
          exact ⟨hu, trivial⟩
    · unfold DvAt
      rw [if_pos rfl]
      exact ⟨u, e, h2 (u, .tup [.int 0]) (by simp)⟩
/-- the table has one code object more -/
theorem tabs_grow {T : List (Addr × Str)} {P c' : Addr} {q : Str} {ps : Array Value} {pos : Pos} (hT : Tabs T H) (hP : H P = some (.tbl ps)) (ht : TriplesOk ps.toList) (ha : ∀ (pos : Pos) (cv : Value), codeAmong pos ps.toList = some cv → ∃ c, cv = .ref c ∧ H c = some (CodeO c q)) (nC : H c' = none) (hu : ∀ p ∈ T, p.1 = P → p.2 = q) :
    Tabs T (L2.upd (L2.upd H P (.tbl (ps ++ #[rawInt pos.line, rawInt pos.col, .ref c']))) c' (CodeO c' q)) ∧ ExtN H (L2.upd (L2.upd H P (.tbl (ps ++ #[rawInt pos.line, rawInt pos.col, .ref c']))) c' (CodeO c' q)) := by
  have hE : ExtN H (L2.upd (L2.upd H P (.tbl (ps ++ #[rawInt pos.line, rawInt pos.col, .ref c']))) c' (CodeO c' q)) := fun b o e n => by
    have n1 : b ≠ P := fun z => by
      rw [z, hP] at e
      exact n ps (Option.some.inj e).symm
    rw [upd_ne (ne_of_none e nC), upd_ne n1]
    exact e
  have eL : (ps ++ #[rawInt pos.line, rawInt pos.col, .ref c']).toList = ps.toList ++ [rawInt pos.line, rawInt pos.col, .ref c'] := by simp
  refine ⟨fun p hp => ?_, hE⟩
  by_cases hb : p.1 = P
  · rw [hu p hp hb, hb]
    refine ⟨_, (upd_ne (ne_of_none hP nC)).trans upd_same, by rw [eL]; exact PySem.TriplesOk_snoc _ _ _ _ ht, fun p' cv hcv => ?_⟩
    rw [eL] at hcv
    rcases LamX.among_app _ ht hcv with z | z
    · obtain ⟨c0, e1, e2⟩ := ha p' cv z
      exact ⟨c0, e1, hE _ _ e2 LamX.codeO_ne⟩
    · exact ⟨c', z, upd_same⟩
  · obtain ⟨qs, a1, a2, a3⟩ := hT p hp
    refine ⟨qs, (upd_ne (ne_of_none a1 nC)).trans ((upd_ne hb).trans a1), a2, fun p' cv hcv => ?_⟩
    obtain ⟨c0, e1, e2⟩ := a3 p' cv hcv
    exact ⟨c0, e1, hE _ _ e2 LamX.codeO_ne⟩
/-- the lambda's object is made -/
theorem lamv_tail {T : List (Addr × Str)} {c P : Addr} {params : Arguments} {body : Expr} {scope : Scope} {pos : Pos} {dV : Value} {E : Value → Shared → Prop} {Q : Value → Shared → Prop} (I : Inv X pins σ H s) (TB : TabB X.base X.mg c P) (hcode : X.env.code = .ref c)
    (hm : (P, X.env.qual ++ "<lambda>") ∈ T) (hu : ∀ p ∈ T, p.1 = P → p.2 = X.env.qual ++ "<lambda>") (hT : Tabs T H) (L : LamSc X.N X.env.scope scope)
    (h : ∀ (f c' : Addr) (doc pm ctv : Value) (H1 : Hp) (s' : Shared), Inv X pins σ H1 s' → ExtN H H1 → Tabs T H1 → H1 f = some (Ex (lamObj X params body scope dV doc pm c' ctv)) → H1 c' = some (CodeO c' (X.env.qual ++ "<lambda>")) → Q (.ref f) s') :
    wpAny (model X.prog X.w) X.A (makeTail "<lambda>" (X.env.qual ++ "<lambda>") params (.expr body) scope X.env dV .none none pos pos.line) Q E s := by
  obtain ⟨ps, hP, ht, ha⟩ := hT _ hm
  have clo : closureFor scope X.env = pure (cloFrom X.env.cells scope.names []) := closure_ok fun y hy e => (L.free y hy e).elim (fun z => I.ok.has _ (.inl z)) fun z => I.ok.has _ (.inr z)
  have bP : s.heap.BuiltinsAt X.mg P := TB.bm.keeps I.bk
  have hP' : s.heap.get? P = some { cls := .none, data := .fields ps } := I.hok P _ hP
  cases hc : codeAmong pos ps.toList with
  | none =>
    refine PySem.W.kdv_makeTail (mg := X.mg) (c := c) (P := P) (ps := ps) clo I.ok.glob (I.mod.glob.keeps I.bk) hcode (TB.code.keeps I.bk) hP' ht hc TB.gP bP fun c' ctv doc h' tk hx hge hlt hrec htb => ?_
    obtain ⟨c2, oc, vs, t, e2, hoc, hd, hv⟩ := hrec
    cases e2
    have nC : H c' = none := I.hok.fresh hge
    have I1 := LamX.inv_table (t' := tk) (more := #[rawInt pos.line, rawInt pos.col, .ref c']) (q := X.env.qual ++ "<lambda>") I hP (fun b o hb e => hx b o hb e) htb hge ⟨oc, vs, t, hoc, hd, hv⟩
    obtain ⟨T1, E1⟩ := tabs_grow (pos := pos) hT hP ht ha nC hu
    have hc1 : (L2.upd (L2.upd H P (.tbl (ps ++ #[rawInt pos.line, rawInt pos.col, .ref c']))) c' (CodeO c' (X.env.qual ++ "<lambda>"))) c' = some (CodeO c' (X.env.qual ++ "<lambda>")) := upd_same
    generalize (L2.upd (L2.upd H P (.tbl (ps ++ #[rawInt pos.line, rawInt pos.col, .ref c']))) c' (CodeO c' (X.env.qual ++ "<lambda>"))) = H1 at I1 T1 E1 hc1
    have nF : H1 h'.objs.size = none := I1.hok.fresh (Nat.le_refl _)
    have sF := same_upd (o := Ex (lamObj X params body scope dV doc ((X.mg "__name__").getD .none) c' ctv)) nF
    have I2 := I1.laid (t' := tk) (a := h'.objs.size) (o := Ex (lamObj X params body scope dV doc ((X.mg "__name__").getD .none) c' ctv)) (h' := h'.push (lamObj X params body scope dV doc ((X.mg "__name__").getD .none) c' ctv)) (fun b o e => Heap.get?_push_of_some _ e) (Nat.le_refl _) (ex_ok (Heap.get?_push_size _ rfl))
    exact h _ c' doc _ ctv _ _ I2 (E1.trans (ExtN.of sF)) (LamX.Tabs.ext T1 sF) upd_same (sF _ _ hc1)
  | some cv =>
    obtain ⟨c', e, hco⟩ := ha pos cv hc
    subst e
    refine PySem.W.kdv_makeTailHit (mg := X.mg) (c := c) (P := P) (ps := ps) clo I.ok.glob (I.mod.glob.keeps I.bk) hcode (TB.code.keeps I.bk) hP' ht hc bP fun ctv doc h' tk hx hsz => ?_
    have I1 : Inv X pins σ H { s with heap := h', toks := tk } := I.kept hx
    have nF : H h'.objs.size = none := I1.hok.fresh (Nat.le_refl _)
    have sF := same_upd (o := Ex (lamObj X params body scope dV doc ((X.mg "__name__").getD .none) c' ctv)) nF
    have I2 := I1.laid (t' := tk) (a := h'.objs.size) (o := Ex (lamObj X params body scope dV doc ((X.mg "__name__").getD .none) c' ctv)) (h' := h'.push (lamObj X params body scope dV doc ((X.mg "__name__").getD .none) c' ctv)) (fun b o e => Heap.get?_push_of_some _ e) (Nat.le_refl _) (ex_ok (Heap.get?_push_size _ rfl))
    exact h _ c' doc _ ctv _ _ I2 (ExtN.of sF) (LamX.Tabs.ext hT sF) upd_same (sF _ _ hco)
def tLamV (X : Cx) (T : List (Addr × Str)) (t : XK → TE) (k : Nat) : TE := fun _ H Q => Tabs T H ∧ ∀ f H1, ExtN H H1 → Tabs T H1 → LamS X t k H1 f → Q (.ref f) H1
theorem pe_lamV0 {T : List (Addr × Str)} {c P : Addr} {params : Arguments} {body : Expr} {scope : Scope} {pos : Pos} (TB : TabB X.base X.mg c P) (hcode : X.env.code = .ref c) (hm : (P, X.env.qual ++ "<lambda>") ∈ T) (hu : ∀ p ∈ T, p.1 = P → p.2 = X.env.qual ++ "<lambda>") (L : LamSc X.N X.env.scope scope)
    (hdef : defaultsOf params X.env = ([], [])) (hb : DvBind false params body scope) (hbody : ∀ (A : Around) (outer : List Env) (s : Shared) (H : Hp) (E : XK) (f c' : Addr), Room k (A.deeper (lamEnv X scope s.heap.objs.size f c')) → PE (lamCx X A outer s H E scope f c') body (t E)) :
    PE X (.Lambda params body scope pos) (tLamV X T t k) := by
  refine ⟨fun pins s σ H Q I h => ?_⟩
  obtain ⟨hT, h⟩ := h
  refine PySem.W.kla_eval hdef ?_
  rw [makeFunction_eq]
  simp only [List.zip_nil_right, List.filterMap_nil, List.isEmpty_nil, if_true, pure_bind]
  refine lamv_tail I TB hcode hm hu hT L fun f c' doc pm ctv H1 s' I1 E1 T1 hf hc => ⟨.ref f, H1, I1, rfl, h f H1 E1 T1 (lamS_mk L hb hbody hf hc ?_)⟩
  unfold DvAt
  rw [if_neg Bool.false_ne_true]
theorem pe_lamV1 {T : List (Addr × Str)} {c P : Addr} {params : Arguments} {body e : Expr} {scope : Scope} {pos : Pos} (TB : TabB X.base X.mg c P) (hcode : X.env.code = .ref c) (hm : (P, X.env.qual ++ "<lambda>") ∈ T) (hu : ∀ p ∈ T, p.1 = P → p.2 = X.env.qual ++ "<lambda>") (L : LamSc X.N X.env.scope scope)
    (hd : params.defaults = [e]) (hk : params.kw_defaults = []) (he : PE X e (tC (.int 0))) (hb : DvBind true params body scope) (hbody : ∀ (A : Around) (outer : List Env) (s : Shared) (H : Hp) (E : XK) (f c' : Addr), Room k (A.deeper (lamEnv X scope s.heap.objs.size f c')) → PE (lamCx X A outer s H E scope f c') body (t E)) :
    PE X (.Lambda params body scope pos) (tLamV X T t k) := by
  refine ⟨fun pins s σ H Q I h => ?_⟩
  obtain ⟨hT, h⟩ := h
  refine PySem.W.kdv_lam (by rw [hd]; rfl) hk ?_
  rw [hd]
  refine PySem.W.kdv_all1 (thn (he.run pins s σ H (fun v H' => v = .int 0 ∧ H' = H) I ⟨rfl, rfl⟩) fun u s1 ⟨v, H1, I1, r, e1, e2⟩ => PySem.W.kdv_all0 ?_)
  subst e1 e2
  obtain ⟨tk, rfl⟩ := r
  rw [makeFunction_eq]
  simp only [List.zip_nil_right, List.filterMap_nil, List.isEmpty_nil, List.isEmpty_cons, if_true, pure_bind, Bool.false_eq_true, if_false]
  refine wpAny_bind (wpAny_newTextTuple ?_)
  have nT : H1 s1.heap.objs.size = none := I1.hok.fresh (Nat.le_refl _)
  have sT := same_upd (o := HO.tup [.int 0]) nT
  have I2 := I1.laid (t' := s1.toks) (a := s1.heap.objs.size) (o := HO.tup [.int 0]) (h' := s1.heap.push (PySem.W.kdv_tup [.int 0 tk])) (fun b o e => Heap.get?_push_of_some _ e) (Nat.le_refl _) ⟨by show 1 ≤ sizeLine; decide, [.int 0 tk], .cons ⟨_, rfl⟩ .nil, _, Heap.get?_push_size _ rfl, rfl, _, rfl⟩
  refine lamv_tail I2 TB hcode hm hu (LamX.Tabs.ext hT sT) L fun f c' doc pm ctv H2 s' I3 E2 T2 hf hc => ⟨.ref f, H2, I3, rfl, h f H2 ((ExtN.of sT).trans E2) T2 (lamS_mk L hb hbody hf hc ?_)⟩
  unfold DvAt
  rw [if_pos rfl]
  exact ⟨_, rfl, E2 _ _ upd_same fun ps z => by cases z⟩
/-- a call of a def that sees the cells of this frame -/
def tCallV (X : Cx) (sp : Sp) (ta : TA) : TE := fun σ H Q => ta σ H fun vs H1 => ∀ cs : Cells, CellsFit X σ cs → (∀ b o, cs.lookup b = some o → H1 b = none) → sp vs (rev cs H1) (fun v H2 => Q v (hid cs H2)) E0
theorem pe_callV {j : Nat} {g : Addr} {fd : FuncData} {ps : List Str} {sp : Sp} {x : Str} {p pos : Pos} {e : Expr} {es : List Expr} {ta : TA} (F : FnOk X.prog X.w X.K X.mg X.base CX0 j g fd ps sp) (hr : Room j X.A) (hg : Gl X x) (hm : X.mg x = some (.ref g)) (hk : PySem.W.keepIn X.K (.ref g) = true) (hb : L2.Binds X.K fd ps [])
    (hfn : ∀ x, X.fn x = true) (ha : PA X (e :: es) ta)
    (hdb : (x == ("__debug__" : Str)) = false := by decide) (he : starEach (e :: es) X.env = (false, eval e X.env) :: starEach es X.env := by rfl) (hpl : (backTo pos (starEach es X.env)).any (·.1) = false := by rfl) :
    PE X (.Call (.Name x p) (e :: es) [] pos) (tCallV X sp ta) := by
  refine ⟨fun pins s σ H Q I h => ?_⟩
  refine wpAny_Call_Name_kw (ld_glob I hg hm ?_ hdb)
  refine PySem.W.callWith_K (h₀ := X.base) I.ok.mod.kin hk (thn (ha.run pos pins s σ H _ I h) fun us s1 ⟨vs, H1, I1, r1, q1⟩ => ⟨I1.kIn, ?_⟩) he hpl
  obtain ⟨cs, fit, out, nb, nf⟩ := cells_fit I1 hfn
  have hsp := q1 cs fit out.no
  have r2 : Vals vs us := r1
  have hl : us.length = ps.length := by rw [← r2.length]; exact F.len _ _ _ _ hsp
  refine wpAny_call (codeAny_mono (F.run X.A X.stack s1 (rev cs H1) ⟨us, []⟩ (us ++ []) vs _ E0 hr (rev_env0 I1.env0 out nb nf) (hb s1 us I1.kIn (by rw [List.append_nil]; exact hl)) (by rw [List.append_nil]; exact r2) hsp) fun r s' hq => ?_)
  cases r with
  | error e => exact (show False from hq).elim
  | ok fl =>
    cases fl with
    | ret u => exact I1.after (ce_hid out nf hq)
    | next => exact False.elim hq
    | brk => exact False.elim hq
    | cont => exact False.elim hq
end
end
abbrev s_l_all_raise : Stmt := top 50
abbrev N_l_all_raise : List Str := ["_law_calls", "_law_expected", "_law_call"]
abbrev P_l_all_raise : List Str := ["_law_calls", "_law_expected"]
theorem sc_l_all_raise : FnScope N_l_all_raise P_l_all_raise (defScope s_l_all_raise) := ⟨rfl, rfl, rfl, by decide +kernel, rfl, by decide +kernel, by decide +kernel⟩
/-! ### the helpers over lambdas that are values -/
section
variable {P : Program} {w : World} {K : PySem.W.Frag} {mg : Str → Option Value} {base : Heap}
/-- the helper is given a value that raises one of the plain errors, or nothing -/
def spErrV (P : Program) (w : World) (K : PySem.W.Frag) (mg : Str → Option Value) (base : Heap) (CP : Addr) (c : Nat → Addr) (j : Nat) : Sp := fun vs H Q _ => ∃ (f : Addr) (tl : XK → Hp → VK → Prop), vs = [.ref f] ∧ LamVal P w K mg base j H f tl ∧ TTerr K CP c tl H Q
theorem ok_errv {f CP : Addr} {fd : FuncData} {c : Nat → Addr} {j : Nat} (F : Fun K "_law_error_of" "_law_error_of" s_l_error_of f fd) (B : Blt mg) (ME : ErrM mg CP c) (hj : 1 ≤ j) : FnOk P w K mg base CX0 (j + 1) f fd P_l_error_of (spErrV P w K mg base CP c j) := by
  obtain ⟨oc, od, kV, doc, pm, an, cdv, ct, osl, rfl, lk, hcd⟩ := F.ex
  refine ⟨fun vs H Q E h => ?_, fun A outer s H args us vs Q E hr e0 hb r h => ?_⟩
  · obtain ⟨g, tl, rfl, _⟩ := h
    rfl
  · obtain ⟨g, tl, rfl, L, ht⟩ := h
    refine LamX.run_ofS (N := N_l_error_of) (ps := P_l_error_of) lk hcd sc_l_error_of hr e0 hb r rfl fun hr' => ?_
    let X : Cx := { (cxOf C8.CX0 P w K mg base N_l_error_of "_law_error_of" (defScope s_l_error_of) f cdv A outer s H C8.E0) with A := A, stack := outer }
    obtain ⟨t, h1, h2⟩ := err_core (X := X) (g := f) (cdg := cdv) (k := j - 1) (f := g) (s := s) (H := H) (Q := Q) (tl := fun E HZ Q' => Same H HZ ∧ tl E HZ Q') ME B (hr.mono (by omega)) (fun W pn xe E p1 p2 tk hW => pe_callLV (i := 0) L hr' (passes_call tk hW) rfl (.inl rfl)) ⟨.refl H, ht⟩
    exact ⟨t, h1.nox, h2⟩
/-- all values raise the error of the number i -/
def spAllR (P : Program) (w : World) (K : PySem.W.Frag) (mg : Str → Option Value) (base : Heap) (c : Nat → Addr) (j i : Nat) : Sp := fun vs H Q _ => ∃ (l e : Addr) (fs : List Addr), vs = [.ref l, .ref e] ∧ H l = some (.lst (fs.map V.ref)) ∧ fs.length ≤ 60 ∧ H e = some (.tup [.str (eName i), .int 0]) ∧
  (∀ f ∈ fs, ∃ tl, LamVal P w K mg base j H f tl ∧ ∀ (H' : Hp) (EE : XK) (QQ : VK), Same H H' → (∀ H'', Same H' H'' → EE (.ref (c i)) none H'') → tl EE H' QQ) ∧ ∀ H', Same H H' → Q (.bl true) H'
set_option maxHeartbeats 0 in
theorem ok_allr {f CP : Addr} {fd : FuncData} {c : Nat → Addr} {j i : Nat} (F : Fun K "_law_all_raise" "_law_all_raise" s_l_all_raise f fd) (DE : Df P w K mg base "_law_error_of" (j + 1) P_l_error_of (spErrV P w K mg base CP c j)) (e15 : Err15 K CP c (c i) i) (hi : i < 11) (sh : ∀ i, i < 15 → PySem.SeqAt.shaped (.tuple [.str (eName i), .int 0]) = true) : FnOk P w K mg base CX0 (j + 3) f fd P_l_all_raise (spAllR P w K mg base c j i) := by
  obtain ⟨fE, dE, gE, kE, bE, GE⟩ := DE
  refine F.ok sc_l_all_raise (fun vs H Q E h => ?_) (fun cdv A outer s H vs Q E hr h => ?_)
  · obtain ⟨l, e, fs, rfl, _⟩ := h
    rfl
  · obtain ⟨l, e, fs, rfl, hl, len, he, hf, q⟩ := h
    have hu : (A.deeper (PyProof.Rows.envOfC "_law_all_raise" (defScope s_l_all_raise) s.heap.objs.size f cdv)).units + 64 < cLine := hr.units
    have hr1 : Room (j + 1) _ := hr.mono (by omega)
    refine ⟨_, pss_one (ps_ret (pe_cmpR (op_eqD hu) (pe_lc (own := [("_law_call", 2)]) (g := gName 2) (tt := tTest (tOp (rNeD K) (tCall (spErrV P w K mg base CP c j) [] E0 (tCons (tVar 2) tNil)) (tVar 1))) (te := tVar 2) (by rfl) sc_l_all_raise.nd (pi_list (pv 0)) (blkOk_by (N := N_l_all_raise) (sc := defScope s_l_all_raise) (by decide +kernel)) (fun _ _ _ _ _ => (pg_name (i := 2) sc_l_all_raise.nd rfl (.inl rfl))) (fun _ _ _ _ _ => pts_one (pt_cmpR (op_neD hu) (pe_call GE hr1 (by rfl) gE kE bE .nil pass0 (pa_cons (pv 2) pa_nil)) (pv 1) (nomark _))) (fun _ _ _ _ _ => pv 2)) (pe_lst pa_nil) (nomark _))), ?_⟩
    refine ⟨_, rfl, l, rfl, ⟨_, SqL.of hl⟩, fun D nD => ?_⟩
    refine lc_list (K := K) (a := l) (xs := fs.map V.ref) (fun i H' => Same H H' ∧ H' D = some (.lst [])) ⟨same_upd nD, upd_same⟩ (fun i H' _ ⟨s', _⟩ => SqL.of (s' _ _ hl)) ?_ ?_
    · rintro n v H' hn ⟨s', hD⟩
      rw [List.getElem?_map] at hn
      obtain ⟨g, hg, rfl⟩ := Option.map_eq_some_iff.mp hn
      obtain ⟨tl, L, hL⟩ := hf g (List.mem_of_getElem? hg)
      refine ⟨rfl, _, rfl, g, tl, rfl, L.same s', hL H' _ _ s' fun H'' s'' => ⟨c i, i, rfl, rfl, e15, hi, fun u H3 s3 hu3 => ?_⟩⟩
      have s13 := s'.trans (s''.trans s3)
      refine ⟨_, rfl, _, _, .tup (SqT.of hu3) (.cons (.str _) (.cons (.int _) .nil)), .tup (SqT.of (s13 _ _ he)) (.cons (.str _) (.cons (.int _) .nil)), sh i (by omega), sh i (by omega), false, congrArg V.bl (by rw [PySem.SeqAt.eqv_refl _ (PySem.SeqAt.canLay_of_shaped (sh i (by omega)))]; rfl), iteF ⟨s13, (s''.trans s3) _ _ hD⟩⟩
    · rintro H' ⟨s', hD⟩
      refine ⟨(by show 0 ≤ sizeLine; decide), fun z nz => ?_⟩
      have s2 := same_upd (o := HO.lst []) nz
      refine ⟨.list [], .list [], .lst (SqL.of (s2 _ _ hD)) .nil, .lst (SqL.of upd_same) .nil, by decide +kernel, by decide +kernel, ?_⟩
      exact q _ (s'.trans s2)
end
/-! ### two nets whose periods are too long to compare -/
def spFirstDiffX (C D : Addr) : Sp := fun vs H _ E => ∃ (x t x' t' : Addr) (p h p' h' : Nat) (os os' : List Od) (F F' : List Addr), vs = [.ref x, .ref x'] ∧ NetAt C H x p h os t F ∧ NetAt C H x' p' h' os' t' F' ∧ 0 < p' ∧ p' ≤ 30 ∧ 400 < cmul p p' ∧ E (.ref D) none H
section
variable {P : Program} {w : World} {K : PySem.W.Frag} {mg : Str → Option Value} {base : Heap}
theorem ok_first_diffX {f C D : Addr} {fd : FuncData} (F : Fun K "first_difference" "first_difference" s_first_difference f fd) (T : NetT K C) (ER : ErrR K mg "TooLong" D) (hL : ∃ t, mg "LONGEST_MULTIPLE" = some (.int 400 t)) (DC : Df P w K mg base "common_multiple" 2 P_common_multiple spCommon) : FnOk P w K mg base (L2.CX P w) 3 f fd P_first_difference (spFirstDiffX C D) := by
  obtain ⟨fC, fdC, gC, kC, bC, GC⟩ := DC
  obtain ⟨tkL, hL⟩ := hL
  refine F.okX sc_first_difference (fun vs H Q E h => ?_) (fun cdv A outer s H vs Q E hr h => ?_)
  · obtain ⟨x, t, x', t', p, h, p', h', os, os', F, F', rfl, _⟩ := h
    rfl
  · obtain ⟨x, t, x', t', p, h, p', h', os, os', F, F', rfl, Nt, Nt', q1, q30, hM, q⟩ := h
    refine ⟨_, pss_cons (ps_set (i := 2) sc_first_difference.nd rfl (.inl rfl) (pe_call GC hr (by rfl) gC kC bC .nil pass0 (pa_cons (pe_fld (pv 0) rfl) (pa_cons (pe_fld (pv 1) rfl) pa_nil))))
      (pss_cons (ps_if (pt_cmpR op_gt (pv 2) (pe_glob (v := .int 400) rfl hL ⟨_, rfl⟩) (nomark _)) (pss_one (ps_raise rfl (takes_of rfl rfl rfl rfl) (pmk_err ER (by rfl)))) pss_nil)
      (pss_cons ps_never (pss_cons ps_never (pss_one ps_never)))), ?_⟩
    obtain ⟨dx, _, _, _, hx, _⟩ := id Nt
    obtain ⟨dx', _, _, _, hx', _⟩ := id Nt'
    refine ⟨_, rfl, x, C, dx, _, _, rfl, hx, T.cl, T.nP, nf_pe, _, rfl, x', C, dx', _, _, rfl, hx', T.cl, T.nP, nf_pe, p, p', rfl, q1, q30, ?_⟩
    refine ⟨_, rfl, _, _, rfl, rfl, _, rfl, ?_⟩
    rw [decide_eq_true (show ((400 : Int) < (cmul p p' : Nat)) by omega)]
    exact iteT q
end
/-! ### nets of at most one order, and where two of them differ -/
def odB (p h : Nat) (o : Od) : Bool := decide (o.s < h) && (decide (o.t < h) && (!decide (o.s = o.t) && (decide (o.f < p) && (decide (1 ≤ o.n) && (decide (o.n ≤ p) && (decide (1 ≤ o.e) && decide (o.e ≤ 9)))))))
def netB (p h : Nat) (os : List Od) : Bool := decide (1 ≤ p) && (decide (p ≤ 30) && (decide (1 ≤ h) && (decide (h ≤ 10) && (decide (os.length ≤ 20) && os.all (odB p h)))))
theorem netB_ok {p h : Nat} {os : List Od} (b : netB p h os = true) : NetOk p h os := by
  unfold netB at b
  simp only [Bool.and_eq_true, decide_eq_true_eq, List.all_eq_true] at b
  obtain ⟨h1, h2, h3, h4, h5, h6⟩ := b
  refine ⟨h1, h2, h3, h4, h5, fun o ho => ?_⟩
  have k := h6 o ho
  unfold odB at k
  simp only [Bool.and_eq_true, Bool.not_eq_true', decide_eq_true_eq, decide_eq_false_iff_not] at k
  obtain ⟨a1, a2, a3, a4, a5, a6, a7, a8⟩ := k
  exact ⟨a1, a2, a3, a4, a5, a6, a7, a8⟩
/-- the first difference is on this day, at this house -/
def diffB (p h : Nat) (os : List Od) (p' h' : Nat) (os' : List Od) (day hs : Nat) (a b : Nat × Nat) : Bool := decide (hs < min h h') && (decide (dst p h os (hs, day) = some a) && (decide (dst p' h' os' (hs, day) = some b) && (!decide (a = b) &&
  (((List.range (min h h')).all fun s => (List.range day).all fun d => decide (dst p h os (s, d) = dst p' h' os' (s, d))) && (List.range hs).all fun s => decide (dst p h os (s, day) = dst p' h' os' (s, day))))))
theorem diff_is {H : Hp} {v : V} {p h : Nat} {os : List Od} {p' h' : Nat} {os' : List Od} {day hs : Nat} {a b : Nat × Nat} (D : DiffAt H v p h os p' h' os') (k : diffB p h os p' h' os' day hs a b = true) :
    ∃ u v1 v2, v = .ref u ∧ H u = some (.tup [.int day, .int hs, v1, v2]) ∧ OptStop H v1 (some a) ∧ OptStop H v2 (some b) := by
  unfold diffB at k
  simp only [Bool.and_eq_true, Bool.not_eq_true', decide_eq_true_eq, decide_eq_false_iff_not, List.all_eq_true, List.mem_range] at k
  obtain ⟨h1, h2, h3, h4, h5, h6⟩ := k
  have ne : dst p h os (hs, day) ≠ dst p' h' os' (hs, day) := by
    rw [h2, h3]
    exact fun z => h4 (Option.some.inj z)
  rcases D with ⟨_, q⟩ | ⟨hs2, day2, u, v1, v2, rfl, hu, o1, o2, l, n, _, q⟩
  · exact absurd (q (hs, day) h1) ne
  · have e1 : day2 = day := by
      rcases Nat.lt_trichotomy day2 day with z | z | z
      · exact absurd (h5 hs2 l day2 z) n
      · exact z
      · exact absurd (q (hs, day) h1 (.inl z)) ne
    subst e1
    have e2 : hs2 = hs := by
      rcases Nat.lt_trichotomy hs2 hs with z | z | z
      · exact absurd (h6 hs2 z) n
      · exact z
      · exact absurd (q (hs, day2) h1 (.inr ⟨rfl, z⟩)) ne
    subst e2
    rw [h2] at o1
    rw [h3] at o2
    exact ⟨u, v1, v2, rfl, hu, o1, o2⟩
def noDiffB (p h : Nat) (os : List Od) (p' h' : Nat) (os' : List Od) : Bool := (List.range (min h h')).all fun s => (List.range (cmul p p')).all fun d => decide (dst p h os (s, d) = dst p' h' os' (s, d))
theorem diff_no {H : Hp} {v : V} {p h : Nat} {os : List Od} {p' h' : Nat} {os' : List Od} (D : DiffAt H v p h os p' h' os') (k : noDiffB p h os p' h' os' = true) : v = .non := by
  unfold noDiffB at k
  simp only [decide_eq_true_eq, List.all_eq_true, List.mem_range] at k
  rcases D with ⟨e, _⟩ | ⟨hs2, day2, u, v1, v2, rfl, hu, o1, o2, l, n, m, q⟩
  · exact e
  · exact absurd (k hs2 l day2 m) n
def difD (day hs : Nat) (a b : Nat × Nat) : PyData := .tuple [.int day, .int hs, plD a, plD b]
theorem dif_dp {K : PySem.W.Frag} {H : Hp} {u : Addr} {v1 v2 : V} {day hs : Nat} {a b : Nat × Nat} (hu : H u = some (.tup [.int day, .int hs, v1, v2])) (o1 : OptStop H v1 (some a)) (o2 : OptStop H v2 (some b)) : Dp K H (.ref u) (difD day hs a b) :=
  .tup (SqT.of hu) (.cons (.int _) (.cons (.int _) (.cons (opt_dp o1) (.cons (opt_dp o2) .nil))))
theorem dif_sh {day hs : Nat} {a b : Nat × Nat} : PySem.SeqAt.shaped (difD day hs a b) = true := by
  simp [difD, plD, PySem.SeqAt.shaped, PyData.canLay0, PyData.canLayAll0, PyData.depth, PyData.depthAll]
theorem diff_lit {K : PySem.W.Frag} {σ : L2.St} {H : Hp} {v : V} {p h : Nat} {os : List Od} {p' h' : Nat} {os' : List Od} {day hs : Nat} {a b : Nat × Nat} {R : Bool → Hp → Prop} (D : DiffAt H v p h os p' h' os') (k : diffB p h os p' h' os' day hs a b = true) (q : ∀ H', Same H H' → R false H') :
    tTup (tCons (tC (.int day)) (tCons (tC (.int hs)) (tCons (tTup (tCons (tC (.int a.1)) (tCons (tC (.int a.2)) tNil))) (tCons (tTup (tCons (tC (.int b.1)) (tCons (tC (.int b.2)) tNil))) tNil)))) σ H (fun y H2 => rNeD K v y H2 fun x H' => ∃ b, x = V.bl b ∧ R b H') := by
  obtain ⟨u, v1, v2, rfl, hu, o1, o2⟩ := diff_is D k
  refine ⟨(by show 2 ≤ sizeLine; decide), fun x nx => ⟨(by show 2 ≤ sizeLine; decide), fun y ny => ⟨(by show 4 ≤ sizeLine; decide), fun z nz => ?_⟩⟩⟩
  have s1 := same_upd (o := HO.tup [.int a.1, .int a.2]) nx
  have h1 : (L2.upd H x (.tup [.int a.1, .int a.2])) x = some (.tup [.int a.1, .int a.2]) := upd_same
  generalize (L2.upd H x (.tup [.int a.1, .int a.2])) = H1 at s1 h1 ny nz
  have s2 := same_upd (o := HO.tup [.int b.1, .int b.2]) ny
  have h2 : (L2.upd H1 y (.tup [.int b.1, .int b.2])) y = some (.tup [.int b.1, .int b.2]) := upd_same
  generalize (L2.upd H1 y (.tup [.int b.1, .int b.2])) = H2 at s2 h2 nz
  have s3 := same_upd (o := HO.tup [.int day, .int hs, .ref x, .ref y]) nz
  have sA := s1.trans (s2.trans s3)
  exact ⟨difD day hs a b, difD day hs a b, dif_dp (sA _ _ hu) (o1.keep (tk_of sA)) (o2.keep (tk_of sA)), dif_dp upd_same ⟨x, rfl, (s2.trans s3) _ _ h1⟩ ⟨y, rfl, s3 _ _ h2⟩, dif_sh, dif_sh, false, congrArg V.bl (eqv_selfN dif_sh), q _ sA⟩
/-! a net made of words -/
section
variable {C : Addr} {σ : L2.St} {H : Hp} {Q : VK} {p h : Nat}
theorem nil_of {k : List V → Hp → Prop} (h : k [] H) : tNil σ H k := h
theorem net_case {H1 : Hp} {t : Addr} {os : List Od} (ok : NetOk p h os) (hO : OrdsTup H1 t os) {R : Addr → Hp → Prop} (q : ∀ H' x F, Same H1 H' → NetAt C H' x p h os t F → R x H') :
    ∀ x dx, H1 x = none → H1 dx = none → dx ≠ x → spInit C [.ref x, .int p, .int h, .ref t] (L2.upd (L2.upd H1 dx (.own x)) x (.ins C dx [])) (fun v H2 => v = .non ∧ R x H2) E0 := by
  intro x dx nx ndx nex
  have s0 : Same H1 (L2.upd (L2.upd H1 dx (.own x)) x (.ins C dx [])) := same_updN (same_upd ndx) nx
  exact ⟨x, dx, t, p, h, os, H1, rfl, ok, hO.keep (tk_of s0), s0, nx, upd_same, fun H' F s1 nF N => ⟨rfl, q H' x F s1 N⟩⟩
theorem net0_case {t : Addr} (nt : H t = none) (ok : NetOk p h []) {R : Addr → Hp → Prop} (q : ∀ H' x F, Same H H' → NetAt C H' x p h [] t F → R x H') :
    ∀ x dx, (L2.upd H t (.tup [])) x = none → (L2.upd H t (.tup [])) dx = none → dx ≠ x → spInit C [.ref x, .int p, .int h, .ref t] (L2.upd (L2.upd (L2.upd H t (.tup [])) dx (.own x)) x (.ins C dx [])) (fun v H2 => v = .non ∧ R x H2) E0 :=
  net_case ok ⟨[], upd_same, .nil⟩ fun H' x F s2 N => q H' x F ((same_upd nt).trans s2) N
theorem net1_case {o : Od} {u t : Addr} (nu : H u = none) (nt : (L2.upd H u (.tup o.vs)) t = none) (ok : NetOk p h [o]) {R : Addr → Hp → Prop} (q : ∀ H' x F, Same H H' → NetAt C H' x p h [o] t F → R x H') :
    ∀ x dx, (L2.upd (L2.upd H u (.tup o.vs)) t (.tup [.ref u])) x = none → (L2.upd (L2.upd H u (.tup o.vs)) t (.tup [.ref u])) dx = none → dx ≠ x → spInit C [.ref x, .int p, .int h, .ref t] (L2.upd (L2.upd (L2.upd (L2.upd H u (.tup o.vs)) t (.tup [.ref u])) dx (.own x)) x (.ins C dx [])) (fun v H2 => v = .non ∧ R x H2) E0 :=
  net_case ok ⟨[.ref u], upd_same, .cons ⟨u, rfl, same_upd nt _ _ upd_same⟩ .nil⟩ fun H' x F s2 N => q H' x F ((same_upd nu).trans ((same_upd nt).trans s2)) N
theorem net2_case {o o' : Od} {u u' t : Addr} (nu : H u = none) (nu' : (L2.upd H u (.tup o.vs)) u' = none) (nt : (L2.upd (L2.upd H u (.tup o.vs)) u' (.tup o'.vs)) t = none) (ok : NetOk p h [o, o']) {R : Addr → Hp → Prop} (q : ∀ H' x F, Same H H' → NetAt C H' x p h [o, o'] t F → R x H') :
    ∀ x dx, (L2.upd (L2.upd (L2.upd H u (.tup o.vs)) u' (.tup o'.vs)) t (.tup [.ref u, .ref u'])) x = none → (L2.upd (L2.upd (L2.upd H u (.tup o.vs)) u' (.tup o'.vs)) t (.tup [.ref u, .ref u'])) dx = none → dx ≠ x →
      spInit C [.ref x, .int p, .int h, .ref t] (L2.upd (L2.upd (L2.upd (L2.upd (L2.upd H u (.tup o.vs)) u' (.tup o'.vs)) t (.tup [.ref u, .ref u'])) dx (.own x)) x (.ins C dx [])) (fun v H2 => v = .non ∧ R x H2) E0 :=
  net_case ok ⟨[.ref u, .ref u'], upd_same, .cons ⟨u, rfl, same_upd nt _ _ (same_upd nu' _ _ upd_same)⟩ (.cons ⟨u', rfl, same_upd nt _ _ upd_same⟩ .nil)⟩ fun H' x F s2 N => q H' x F ((same_upd nu).trans ((same_upd nu').trans ((same_upd nt).trans s2))) N
end
theorem k28_d1 : diffB 25 3 [⟨0, 1, 24, 1, 9⟩] 16 2 [] 24 0 (1, 33) (0, 24) = true := by decide +kernel
theorem k28_d2 : diffB 20 2 [⟨0, 1, 19, 1, 1⟩] 20 2 [⟨0, 1, 19, 1, 2⟩] 19 0 (1, 20) (1, 21) = true := by decide +kernel
theorem k28_d3 : diffB 2 2 [⟨0, 1, 1, 1, 1⟩] 3 2 [⟨0, 1, 1, 1, 1⟩] 3 0 (1, 4) (0, 3) = true := by decide +kernel
theorem k28_d4 : noDiffB 25 3 [⟨0, 1, 24, 1, 9⟩] 25 2 [⟨0, 1, 24, 1, 9⟩] = true := by decide +kernel
theorem k28_p1 : planOf 3 2 [⟨0, 1, 0, 3, 1⟩, ⟨1, 0, 0, 3, 1⟩] 3 = none := by decide +kernel
theorem k28_p2 : planOf 3 2 [] 0 = some [] := by decide +kernel
abbrev s_law : Stmt := top 51
abbrev N_law : List Str := ["_law_script", "_law_d", "_law_first", "_law_second", "_law_calls", "_law_fits", "_law_late", "_law_net", "_law_long"]
abbrev P_law : List Str := ["_law_script"]
theorem sc_law : FnScope N_law P_law (defScope s_law) := ⟨rfl, rfl, rfl, by decide +kernel, rfl, by decide +kernel, by decide +kernel⟩
section
open LamX (Tabs TabB)
theorem dvBind0 {params : Arguments} {body : Expr} {scope : Scope} (h : ∀ (q : Str) (cl : List (Str × Addr)) (doc pm cv ctv : Value), bindArgs (PySem.W.kdv_fn "<lambda>" q params (.expr body) scope cl .none doc pm cv ctv) ⟨[], []⟩ = pure []) : DvBind false params body scope := fun q cl dV doc pm cv ctv s e => by
  rw [if_neg Bool.false_ne_true] at e
  subst e
  exact ⟨[], .of_eq (h q cl doc pm cv ctv), fun y hy => by cases hy⟩
theorem dvBind1 {params : Arguments} {body : Expr} {scope : Scope} (h : ∀ (q : Str) (cl : List (Str × Addr)) (u : Addr) (doc pm cv ctv : Value), ∃ (kk : Option (Array Value) → Sem (List (Str × Value))) (x : Str), bindArgs (PySem.W.kdv_fn "<lambda>" q params (.expr body) scope cl (.ref u) doc pm cv ctv) ⟨[], []⟩ = seqItems? (.ref u) >>= kk ∧ (∀ tk, kk (some #[.int 0 tk]) = pure [(x, .int 0 tk)]) ∧ scope.names.lookup x = some .local) : DvBind true params body scope := fun q cl dV doc pm cv ctv s e => by
  rw [if_pos rfl] at e
  obtain ⟨u, o, tk, n, rfl, e1, e2⟩ := e
  obtain ⟨kk, x, h1, h2, h3⟩ := h q cl u doc pm cv ctv
  exact ⟨_, BindsTo.of_defaults rfl e1 e2 h1 (h2 tk), fun y hy => by rw [List.mem_singleton.mp hy]; exact h3⟩
variable {P : Program} {w : World} {K : PySem.W.Frag} {mg : Str → Option Value} {base : Heap}
set_option maxHeartbeats 0 in
theorem ok_law {f C fA fD fNi cL Pt : Addr} {cE : Nat → Addr} {fd fdA fdD fdNi : FuncData} (F : FunC K "law" "law" s_law f fd cL) (TBl : TabB base mg cL Pt) (B : Blt mg) (TN : NetT K C)
    (gA : mg "_law_all_raise" = some (.ref fA)) (kA : PySem.W.keepIn K (.ref fA) = true) (bA : Binds K fdA P_l_all_raise []) (GA : FnOk P w K mg base CX0 7 fA fdA P_l_all_raise (spAllR P w K mg base cE 4 6))
    (DR : Df P w K mg base "_law_random" 2 P_l_random (spRandom K)) (DB : Df P w K mg base "_law_below" 2 P_l_below spBelow)
    (gD : mg "first_difference" = some (.ref fD)) (kD : PySem.W.keepIn K (.ref fD) = true) (bD : Binds K fdD P_first_difference []) (GD : FnOk P w K mg base CX0 5 fD fdD P_first_difference (spFirstDiff C)) (GDX : FnOk P w K mg base (L2.CX P w) 3 fD fdD P_first_difference (spFirstDiffX C (cE 6)))
    (DP : Df P w K mg base "plan_days" 8 P_plan_days (spPlanDays C))
    (gN2 : mg "Net" = some (.ref C)) (MN : Mk K C fNi) (GNi : FnOk P w K mg base CX0 5 fNi fdNi P_Net_init (spInit C)) (bNi : Binds K fdNi P_Net_init []) : FnOk P w K mg base CX0 9 f fd P_law (spLawT K Pt) := by
  obtain ⟨f1, d1, g1, k1, b1, G1⟩ := DR
  obtain ⟨fB, dB, gB, kB, bB, GB⟩ := DB
  obtain ⟨fPd, dPd, gP, kP, bP, GP⟩ := DP
  refine F.ok sc_law (fun vs H Q E h => ?_) (fun A outer s H vs Q E hr h => ?_)
  · obtain ⟨a, ns, rfl, _⟩ := h
    rfl
  · obtain ⟨a, ns, rfl, hS, hlen, hPt, qz⟩ := h
    have hr2 : Room 2 _ := hr.mono (by decide)
    have hr5 : Room 5 _ := hr.mono (by decide)
    have hr6 : Room 6 _ := hr.mono (by decide)
    have hr7 : Room 7 _ := hr.mono (by decide)
    have hu : (A.deeper (PyProof.Rows.envOfC "law" (defScope s_law) s.heap.objs.size f (.ref cL))).units + 64 < cLine := hr.units
    refine ⟨_, (pss_cons (ps_set (i := 1) sc_law.nd rfl (.inl rfl) (pe_call G1 hr2 (by rfl) g1 k1 b1 .nil pass0 (pa_cons (pv 0) (pa_cons pe_int pa_nil))))
      (C8.pss_cut (ps_asg (pe_ix ix_list (pe_lst (pa_cons (pe_tup (pa_cons pe_int (pa_cons pe_int pa_nil))) (pa_cons (pe_tup (pa_cons pe_int (pa_cons pe_int pa_nil))) (pa_cons (pe_tup (pa_cons pe_int (pa_cons pe_int pa_nil))) (pa_cons (pe_tup (pa_cons pe_int (pa_cons pe_int pa_nil))) pa_nil))))) (pe_call GB hr2 (by rfl) gB kB bB .nil pass0 (pa_cons (pv 1) (pa_cons pe_int pa_nil))) (fun _ _ => rfl)) (pg_tup (by rfl) (pgs_cons (pg_name (i := 2) sc_law.nd rfl (.inl rfl)) (pgs_cons (pg_name (i := 3) sc_law.nd rfl (.inl rfl)) pgs_nil))))
      (pss_cons (ps_set (i := 8) sc_law.nd rfl (.inr rfl) (pe_lst (pa_cons (pe_make MN GNi hr6 (by rfl) gN2 bNi .nil pass0 (pa_cons (pv 2) (pa_cons pe_int (pa_cons (pe_tup (pa_cons (pe_tup (pa_cons pe_int (pa_cons pe_int (pa_cons pe_int (pa_cons pe_int (pa_cons pe_int pa_nil)))))) pa_nil)) pa_nil)))) (pa_cons (pe_make MN GNi hr6 (by rfl) gN2 bNi .nil pass0 (pa_cons (pv 3) (pa_cons pe_int (pa_cons (pe_tup pa_nil) pa_nil)))) pa_nil))))
      (pss_cons (ps_set (i := 4) sc_law.nd rfl (.inl rfl) (pe_lst (pa_cons (pe_lamV0 (T := [(Pt, _)]) (k := 3) (t := (fun E => tCall (spFirstDiffX C (cE 6)) [] E (tCons (tOp (rIxL K) (tVar 8) (tC (.int 0))) (tCons (tOp (rIxL K) (tVar 8) (tC (.int 1))) tNil)))) TBl rfl List.mem_cons_self (fun p hp _ => by rw [List.mem_singleton.mp hp]) (lamSc_by (by show lamScB N_law (defScope s_law) _ = true; decide +kernel)) rfl (dvBind0 fun _ _ _ _ _ _ => rfl)
        (fun A outer s H E f c' hr' => pe_call (E := E) GDX hr' (by rfl) gD kD bD .nil (passes_call (takes_of rfl rfl rfl rfl) fun _ _ _ _ z => z) (pa_cons (pe_ix ix_list (pv 8) pe_int (fun _ _ => rfl)) (pa_cons (pe_ix ix_list (pv 8) pe_int (fun _ _ => rfl)) pa_nil)))) (pa_cons (pe_lamV1 (T := [(Pt, _)]) (k := 3) (t := (fun E => tCall (spFirstDiffX C (cE 6)) [] E (tCons (tOp (rIxL K) (tVar 8) (tC (.int 1))) (tCons (tOp (rIxL K) (tVar 8) (tC (.int 0))) tNil)))) TBl rfl List.mem_cons_self (fun p hp _ => by rw [List.mem_singleton.mp hp]) (lamSc_by (by show lamScB N_law (defScope s_law) _ = true; decide +kernel)) rfl rfl pe_int (dvBind1 fun _ _ _ _ _ _ _ => ⟨_, "_law_a", rfl, fun _ => rfl, rfl⟩)
        (fun A outer s H E f c' hr' => pe_call (E := E) GDX hr' (by rfl) gD kD bD .nil (passes_call (takes_of rfl rfl rfl rfl) fun _ _ _ _ z => z) (pa_cons (pe_ix ix_list (pv 8) pe_int (fun _ _ => rfl)) (pa_cons (pe_ix ix_list (pv 8) pe_int (fun _ _ => rfl)) pa_nil)))) pa_nil))))
      (pss_cons (ps_if (pt_not (pt_val (pe_callV GA hr7 (by rfl) gA kA bA (fun _ => rfl) (pa_cons (pv 4) (pa_cons (pe_tup (pa_cons pe_str (pa_cons pe_int pa_nil))) pa_nil))))) (pss_one (ps_ret pe_bl)) pss_nil)
      (pss_cons (ps_set (i := 5) sc_law.nd rfl (.inl rfl) (pe_lst (pa_cons (pe_make MN GNi hr6 (by rfl) gN2 bNi .nil pass0 (pa_cons pe_int (pa_cons pe_int (pa_cons (pe_tup (pa_cons (pe_tup (pa_cons pe_int (pa_cons pe_int (pa_cons pe_int (pa_cons pe_int (pa_cons pe_int pa_nil)))))) pa_nil)) pa_nil)))) (pa_cons (pe_make MN GNi hr6 (by rfl) gN2 bNi .nil pass0 (pa_cons pe_int (pa_cons pe_int (pa_cons (pe_tup pa_nil) pa_nil)))) pa_nil))))
      (pss_cons (ps_if (pt_cmpR (op_neD hu) (pe_call GD hr5 (by rfl) gD kD bD .nil pass0 (pa_cons (pe_ix ix_list (pv 5) pe_int (fun _ _ => rfl)) (pa_cons (pe_ix ix_list (pv 5) pe_int (fun _ _ => rfl)) pa_nil))) (pe_tup (pa_cons pe_int (pa_cons pe_int (pa_cons (pe_tup (pa_cons pe_int (pa_cons pe_int pa_nil))) (pa_cons (pe_tup (pa_cons pe_int (pa_cons pe_int pa_nil))) pa_nil))))) (nomark _)) (pss_one (ps_ret pe_bl)) pss_nil)
      (pss_cons (ps_set (i := 6) sc_law.nd rfl (.inl rfl) (pe_lst (pa_cons (pe_make MN GNi hr6 (by rfl) gN2 bNi .nil pass0 (pa_cons pe_int (pa_cons pe_int (pa_cons (pe_tup (pa_cons (pe_tup (pa_cons pe_int (pa_cons pe_int (pa_cons pe_int (pa_cons pe_int (pa_cons pe_int pa_nil)))))) pa_nil)) pa_nil)))) (pa_cons (pe_make MN GNi hr6 (by rfl) gN2 bNi .nil pass0 (pa_cons pe_int (pa_cons pe_int (pa_cons (pe_tup (pa_cons (pe_tup (pa_cons pe_int (pa_cons pe_int (pa_cons pe_int (pa_cons pe_int (pa_cons pe_int pa_nil)))))) pa_nil)) pa_nil)))) pa_nil))))
      (pss_cons (ps_if (pt_cmpR (op_neD hu) (pe_call GD hr5 (by rfl) gD kD bD .nil pass0 (pa_cons (pe_ix ix_list (pv 6) pe_int (fun _ _ => rfl)) (pa_cons (pe_ix ix_list (pv 6) pe_int (fun _ _ => rfl)) pa_nil))) (pe_tup (pa_cons pe_int (pa_cons pe_int (pa_cons (pe_tup (pa_cons pe_int (pa_cons pe_int pa_nil))) (pa_cons (pe_tup (pa_cons pe_int (pa_cons pe_int pa_nil))) pa_nil))))) (nomark _)) (pss_one (ps_ret pe_bl)) pss_nil)
      (pss_cons (ps_if (pt_cmpR (op_neD hu) (pe_call GD hr5 (by rfl) gD kD bD .nil pass0 (pa_cons (pe_make MN GNi hr6 (by rfl) gN2 bNi .nil pass0 (pa_cons pe_int (pa_cons pe_int (pa_cons (pe_tup (pa_cons (pe_tup (pa_cons pe_int (pa_cons pe_int (pa_cons pe_int (pa_cons pe_int (pa_cons pe_int pa_nil)))))) pa_nil)) pa_nil)))) (pa_cons (pe_make MN GNi hr6 (by rfl) gN2 bNi .nil pass0 (pa_cons pe_int (pa_cons pe_int (pa_cons (pe_tup (pa_cons (pe_tup (pa_cons pe_int (pa_cons pe_int (pa_cons pe_int (pa_cons pe_int (pa_cons pe_int pa_nil)))))) pa_nil)) pa_nil)))) pa_nil))) (pe_tup (pa_cons pe_int (pa_cons pe_int (pa_cons (pe_tup (pa_cons pe_int (pa_cons pe_int pa_nil))) (pa_cons (pe_tup (pa_cons pe_int (pa_cons pe_int pa_nil))) pa_nil))))) (nomark _)) (pss_one (ps_ret pe_bl)) pss_nil)
      (pss_cons (ps_set (i := 7) sc_law.nd rfl (.inl rfl) (pe_make MN GNi hr6 (by rfl) gN2 bNi .nil pass0 (pa_cons pe_int (pa_cons pe_int (pa_cons (pe_tup (pa_cons (pe_tup (pa_cons pe_int (pa_cons pe_int (pa_cons pe_int (pa_cons pe_int (pa_cons pe_int pa_nil)))))) (pa_cons (pe_tup (pa_cons pe_int (pa_cons pe_int (pa_cons pe_int (pa_cons pe_int (pa_cons pe_int pa_nil)))))) pa_nil))) pa_nil)))))
      (pss_cons (ps_if (PW.pt (pw_or (pt_cmpR op_notN (pe_call GP hr (by rfl) gP kP bP .nil pass0 (pa_cons (pv 7) (pa_cons pe_int pa_nil))) pe_non (nomark _)) (pw_or1 (pt_cmpR (op_neD hu) (pe_call GP hr (by rfl) gP kP bP .nil pass0 (pa_cons (pe_make MN GNi hr6 (by rfl) gN2 bNi .nil pass0 (pa_cons pe_int (pa_cons pe_int (pa_cons (pe_tup pa_nil) pa_nil)))) (pa_cons pe_int pa_nil))) (pe_tup pa_nil) (nomark _))))) (pss_one (ps_ret pe_bl)) pss_nil)
      (pss_one (ps_ret (pe_cmpR op_isN (pe_call GD hr5 (by rfl) gD kD bD .nil pass0 (pa_cons (pe_ix ix_list (pv 5) pe_int (fun _ _ => rfl)) (pa_cons (pe_make MN GNi hr6 (by rfl) gN2 bNi .nil pass0 (pa_cons pe_int (pa_cons pe_int (pa_cons (pe_tup (pa_cons (pe_tup (pa_cons pe_int (pa_cons pe_int (pa_cons pe_int (pa_cons pe_int (pa_cons pe_int pa_nil)))))) pa_nil)) pa_nil)))) pa_nil))) pe_non (nomark _)))))))))))))))), ?_⟩
    refine ⟨_, rfl, a, ns, 28, rfl, hS, hlen, by decide, fun H1 d s1 nd D1 => ?_⟩
    let qL : Str := (PyProof.Rows.envOfC "law" (defScope s_law) 0 0 .none).qual ++ "<lambda>"
    have T1 : Tabs [(Pt, qL)] H1 := fun p hp => by
      rw [List.mem_singleton.mp hp]
      exact LamX.TabS.nil (s1 _ _ hPt)
    refine ⟨fun σ' H' => ∃ p1 q1 : Nat, σ' = [some (.ref a), some (.ref d), some (.int p1), some (.int q1), none, none, none, none, none] ∧ (netB p1 2 [⟨0, 1, 0, 1, 1⟩] = true ∧ netB q1 2 [] = true ∧ 400 < cmul p1 q1 ∧ 400 < cmul q1 p1) ∧ Tabs [(Pt, qL)] H', ?_, ?_⟩
    · refine ⟨(by show 2 ≤ sizeLine; decide), fun u1 n1 => ?_⟩
      have s2 := same_upd (o := HO.tup [.int 30, .int 29]) n1
      have h1 := (upd_same : (L2.upd H1 u1 (.tup [.int 30, .int 29])) u1 = _)
      generalize (L2.upd H1 u1 (.tup [.int 30, .int 29])) = H2 at s2 h1
      refine ⟨(by show 2 ≤ sizeLine; decide), fun u2 n2 => ?_⟩
      have s3 := same_upd (o := HO.tup [.int 27, .int 16]) n2
      have h2 := (upd_same : (L2.upd H2 u2 (.tup [.int 27, .int 16])) u2 = _)
      generalize (L2.upd H2 u2 (.tup [.int 27, .int 16])) = H3 at s3 h2
      refine ⟨(by show 2 ≤ sizeLine; decide), fun u3 n3 => ?_⟩
      have s4 := same_upd (o := HO.tup [.int 21, .int 20]) n3
      have h3 := (upd_same : (L2.upd H3 u3 (.tup [.int 21, .int 20])) u3 = _)
      generalize (L2.upd H3 u3 (.tup [.int 21, .int 20])) = H4 at s4 h3
      refine ⟨(by show 2 ≤ sizeLine; decide), fun u4 n4 => ?_⟩
      have s5 := same_upd (o := HO.tup [.int 30, .int 17]) n4
      have h4 := (upd_same : (L2.upd H4 u4 (.tup [.int 30, .int 17])) u4 = _)
      generalize (L2.upd H4 u4 (.tup [.int 30, .int 17])) = H5 at s5 h4
      refine ⟨(by show 4 ≤ sizeLine; decide), fun l nl => ?_⟩
      have s6 := same_upd (o := HO.lst [.ref u1, .ref u2, .ref u3, .ref u4]) nl
      have hl := (upd_same : (L2.upd H5 l (.lst [.ref u1, .ref u2, .ref u3, .ref u4])) l = _)
      generalize (L2.upd H5 l (.lst [.ref u1, .ref u2, .ref u3, .ref u4])) = H6 at s6 hl
      have s15 := s2.trans (s3.trans (s4.trans s5))
      have s16 := s15.trans s6
      have D6 := D1.but s16
      have ld : l ≠ d := (ne_of_none (D1.but s15).som.choose_spec nl).symm
      refine ⟨_, rfl, d, 4, rfl, D6, by decide, by decide, fun H7 r hr7 b7 D7 => ?_⟩
      have T7 := tabs_butD (tabs_same T1 s16) b7 D6
      have k7 := b7.tk D6
      have hl7 := b7 _ _ ld hl
      have h17 := k7 _ _ ((s3.trans (s4.trans (s5.trans s6))) _ _ h1)
      have h27 := k7 _ _ ((s4.trans (s5.trans s6)) _ _ h2)
      have h37 := k7 _ _ ((s5.trans s6) _ _ h3)
      have h47 := k7 _ _ (s6 _ _ h4)
      match r, hr7 with
      | 0, _ => exact ⟨l, _, 0, _, rfl, rfl, SqL.of hl7, atI_nat (j := 0) rfl, u1, _, rfl, SqT.of h17, rfl, _, _, rfl, _, _, rfl, rfl, 30, 29, rfl, by decide +kernel, T7⟩
      | 1, _ => exact ⟨l, _, 1, _, rfl, rfl, SqL.of hl7, atI_nat (j := 1) rfl, u2, _, rfl, SqT.of h27, rfl, _, _, rfl, _, _, rfl, rfl, 27, 16, rfl, by decide +kernel, T7⟩
      | 2, _ => exact ⟨l, _, 2, _, rfl, rfl, SqL.of hl7, atI_nat (j := 2) rfl, u3, _, rfl, SqT.of h37, rfl, _, _, rfl, _, _, rfl, rfl, 21, 20, rfl, by decide +kernel, T7⟩
      | 3, _ => exact ⟨l, _, 3, _, rfl, rfl, SqL.of hl7, atI_nat (j := 3) rfl, u4, _, rfl, SqT.of h47, rfl, _, _, rfl, _, _, rfl, rfl, 30, 17, rfl, by decide +kernel, T7⟩
      | r + 4, hz => exact absurd hz (by omega)
    clear s1 D1 T1 nd
    rintro σ H1 ⟨p1, q1, rfl, ⟨okp, okq, long1, long2⟩, T1⟩
    have okp := netB_ok okp
    have okq := netB_ok okq
    refine ⟨_, rfl, (by show 5 ≤ sizeLine; decide), fun u nu => ⟨(by show 1 ≤ sizeLine; decide), fun t0 nt => ?_⟩⟩
    have s2 := (same_upd (o := HO.tup [.int 0, .int 1, .int 0, .int 1, .int 1]) nu).trans (same_upd (o := HO.tup [.ref u]) nt)
    refine nil_of ?_
    refine net_case (h := 2) okp ⟨[.ref u], upd_same, .cons ⟨u, rfl, same_upd nt _ _ upd_same⟩ .nil⟩ fun H3 x0 F0 s3 N0 => ?_
    have s13 := s2.trans s3
    clear nu nt s2 s3
    refine ⟨_, rfl, (by show 0 ≤ sizeLine; decide), fun t1 nt => ?_⟩
    have s4 := same_upd (o := HO.tup []) nt
    refine nil_of ?_
    refine net_case (h := 2) okq ⟨[], upd_same, .nil⟩ fun H5 x1 F1 s5 N1 => ?_
    have s35 := s4.trans s5
    refine ⟨(by show 2 ≤ sizeLine; decide), fun lg nl => ?_⟩
    have s6 := same_upd (o := HO.lst [.ref x0, .ref x1]) nl
    have hlg := (upd_same : (L2.upd H5 lg (.lst [.ref x0, .ref x1])) lg = _)
    generalize (L2.upd H5 lg (.lst [.ref x0, .ref x1])) = H6 at s6 hlg
    have T6 := tabs_same T1 (s13.trans (s35.trans s6))
    have N0 := N0.same (s35.trans s6)
    have N1 := N1.same s6
    clear T1 s13 s4 s5 s35 s6 nl nt
    refine ⟨T6, fun f1 HB eB TB M1 => ?_⟩
    have N0 := N0.extN eB
    have N1 := N1.extN eB
    have hlg := ExtN.lst eB hlg
    refine ⟨TB, fun f2 HC eC TC M2 => ?_⟩
    have M1 := M1.extN eC
    have N0 := N0.extN eC
    have N1 := N1.extN eC
    have hlg := ExtN.lst eC hlg
    clear T6 eB TB eC
    refine ⟨(by show 2 ≤ sizeLine; decide), fun l nl => ?_⟩
    have sl := same_upd (o := HO.lst [.ref f1, .ref f2]) nl
    have hl := (upd_same : (L2.upd HC l (.lst [.ref f1, .ref f2])) l = _)
    generalize (L2.upd HC l (.lst [.ref f1, .ref f2])) = HD at sl hl
    have M1 := M1.same sl
    have M2 := M2.same sl
    have N0 := N0.same sl
    have N1 := N1.same sl
    have hlg := sl _ _ hlg
    clear TC sl nl
    refine ⟨_, rfl, (by show 2 ≤ sizeLine; decide), fun e ne => ?_⟩
    have se := same_upd (o := HO.tup [.str "long", .int 0]) ne
    have he := (upd_same : (L2.upd HD e (.tup [.str "long", .int 0])) e = _)
    have hl := se _ _ hl
    generalize (L2.upd HD e (.tup [.str "long", .int 0])) = HE at se he hl
    have M1 := M1.same se
    have M2 := M2.same se
    have N0 := N0.same se
    have N1 := N1.same se
    have hlg := se _ _ hlg
    clear se ne
    have p0 := okp.p1
    have p30 := okp.p30
    have q0 := okq.p1
    have q30 := okq.p30
    refine fun cs fit no => ⟨l, e, [f1, f2], rfl, rev_up no hl, (by show 2 ≤ 60; decide), rev_up no he, fun g hg => ?_, fun H' s' => ⟨true, rfl, iteF ?_⟩⟩
    · rcases List.mem_cons.mp hg with rfl | hg
      · refine ⟨_, M1.val fit no, fun H' EE QQ s' hE => ?_⟩
        have sh := same_hid no s'
        refine ⟨_, rfl, lg, _, 0, _, rfl, rfl, SqL.of (sh _ _ hlg), atI_nat (j := 0) rfl, _, rfl, lg, _, 1, _, rfl, rfl, SqL.of (sh _ _ hlg), atI_nat (j := 1) rfl, x0, t0, x1, t1, p1, 2, q1, 2, _, _, F0, F1, rfl, N0.same sh, N1.same sh, by omega, q30, long1, ?_⟩
        exact hE _ (same_rev (seen_rev.same s') (.refl _))
      · obtain rfl := List.mem_singleton.mp hg
        refine ⟨_, M2.val fit no, fun H' EE QQ s' hE => ?_⟩
        have sh := same_hid no s'
        refine ⟨_, rfl, lg, _, 1, _, rfl, rfl, SqL.of (sh _ _ hlg), atI_nat (j := 1) rfl, _, rfl, lg, _, 0, _, rfl, rfl, SqL.of (sh _ _ hlg), atI_nat (j := 0) rfl, x1, t1, x0, t0, q1, 2, p1, 2, _, _, F1, F0, rfl, N1.same sh, N0.same sh, by omega, p30, long2, ?_⟩
        exact hE _ (same_rev (seen_rev.same s') (.refl _))
    generalize hid cs H' = G0
    clear M1 M2 hlg hl he fit no s' N0 N1
    refine ⟨(by show 5 ≤ sizeLine; decide), fun u nu => ⟨(by show 1 ≤ sizeLine; decide), fun ta0 nt => ?_⟩⟩
    refine nil_of ?_
    refine net1_case (p := 25) (h := 3) (o := ⟨0, 1, 24, 1, 9⟩) nu nt (netB_ok (by decide +kernel)) fun G1 a0 A0 s1 NA => ?_
    refine ⟨(by show 0 ≤ sizeLine; decide), fun ta1 nt => ?_⟩
    refine nil_of ?_
    refine net0_case (p := 16) (h := 2) nt (netB_ok (by decide +kernel)) fun G2 a1 A1 s2 NB => ?_
    refine ⟨(by show 2 ≤ sizeLine; decide), fun lf nl => ?_⟩
    have s3 := same_upd (o := HO.lst [.ref a0, .ref a1]) nl
    have hlf := (upd_same : (L2.upd G2 lf (.lst [.ref a0, .ref a1])) lf = _)
    generalize (L2.upd G2 lf (.lst [.ref a0, .ref a1])) = G3 at s3 hlf
    have NA := NA.same (s2.trans s3)
    have NB := NB.same s3
    clear s1 s2 s3 nl
    refine ⟨_, rfl, lf, _, 0, _, rfl, rfl, SqL.of hlf, atI_nat (j := 0) rfl, _, rfl, lf, _, 1, _, rfl, rfl, SqL.of hlf, atI_nat (j := 1) rfl, a0, ta0, a1, ta1, 25, 3, 16, 2, _, _, A0, A1, rfl, NA, NB, netB_ok (by decide +kernel), netB_ok (by decide +kernel), by decide +kernel, fun G4 v s4 DF => ?_⟩
    refine diff_lit DF k28_d1 fun G5 s5 => iteF ?_
    have NA := NA.same (s4.trans s5)
    have hlf := (s4.trans s5) _ _ hlf
    clear NB DF s4 s5 v
    refine ⟨(by show 5 ≤ sizeLine; decide), fun u nu => ⟨(by show 1 ≤ sizeLine; decide), fun tb0 nt => ?_⟩⟩
    refine nil_of ?_
    refine net1_case (p := 20) (h := 2) (o := ⟨0, 1, 19, 1, 1⟩) nu nt (netB_ok (by decide +kernel)) fun G6 b0 B0 s6 MA => ?_
    refine ⟨(by show 5 ≤ sizeLine; decide), fun u nu => ⟨(by show 1 ≤ sizeLine; decide), fun tb1 nt => ?_⟩⟩
    refine nil_of ?_
    refine net1_case (p := 20) (h := 2) (o := ⟨0, 1, 19, 1, 2⟩) nu nt (netB_ok (by decide +kernel)) fun G7 b1 B1 s7 MB => ?_
    refine ⟨(by show 2 ≤ sizeLine; decide), fun ll nl => ?_⟩
    have s8 := same_upd (o := HO.lst [.ref b0, .ref b1]) nl
    have hll := (upd_same : (L2.upd G7 ll (.lst [.ref b0, .ref b1])) ll = _)
    generalize (L2.upd G7 ll (.lst [.ref b0, .ref b1])) = G8 at s8 hll
    have NA := NA.same (s6.trans (s7.trans s8))
    have hlf := (s6.trans (s7.trans s8)) _ _ hlf
    have MA := MA.same (s7.trans s8)
    have MB := MB.same s8
    clear s6 s7 s8 nl
    refine ⟨_, rfl, ll, _, 0, _, rfl, rfl, SqL.of hll, atI_nat (j := 0) rfl, _, rfl, ll, _, 1, _, rfl, rfl, SqL.of hll, atI_nat (j := 1) rfl, b0, tb0, b1, tb1, 20, 2, 20, 2, _, _, B0, B1, rfl, MA, MB, netB_ok (by decide +kernel), netB_ok (by decide +kernel), by decide +kernel, fun G9 v s9 DF => ?_⟩
    refine diff_lit DF k28_d2 fun GA s10 => iteF ?_
    have NA := NA.same (s9.trans s10)
    have hlf := (s9.trans s10) _ _ hlf
    clear MA MB DF s9 s10 v hll
    refine ⟨(by show 5 ≤ sizeLine; decide), fun u nu => ⟨(by show 1 ≤ sizeLine; decide), fun tc0 nt => ?_⟩⟩
    refine nil_of ?_
    refine net1_case (p := 2) (h := 2) (o := ⟨0, 1, 1, 1, 1⟩) nu nt (netB_ok (by decide +kernel)) fun GB' c0 C0 s11 LA => ?_
    refine ⟨(by show 5 ≤ sizeLine; decide), fun u nu => ⟨(by show 1 ≤ sizeLine; decide), fun tc1 nt => ?_⟩⟩
    refine nil_of ?_
    refine net1_case (p := 3) (h := 2) (o := ⟨0, 1, 1, 1, 1⟩) nu nt (netB_ok (by decide +kernel)) fun GC c1 C1 s12 LB => ?_
    refine ⟨c0, tc0, c1, tc1, 2, 2, 3, 2, _, _, C0, C1, rfl, LA.same s12, LB, netB_ok (by decide +kernel), netB_ok (by decide +kernel), by decide +kernel, fun GE v s13 DF => ?_⟩
    refine diff_lit DF k28_d3 fun GF s14 => iteF ?_
    have NA := NA.same (s11.trans (s12.trans (s13.trans s14)))
    have hlf := (s11.trans (s12.trans (s13.trans s14))) _ _ hlf
    clear LA LB DF s11 s12 s13 s14 v
    refine ⟨(by show 5 ≤ sizeLine; decide), fun u nu => ⟨(by show 5 ≤ sizeLine; decide), fun u' nu' => ⟨(by show 2 ≤ sizeLine; decide), fun te0 nt => ?_⟩⟩⟩
    refine nil_of ?_
    refine net2_case (p := 3) (h := 2) (o := ⟨0, 1, 0, 3, 1⟩) (o' := ⟨1, 0, 0, 3, 1⟩) nu nu' nt (netB_ok (by decide +kernel)) fun GG e0 E0' s15 LN => ?_
    refine ⟨_, rfl, e0, te0, 3, 2, 3, _, E0', rfl, LN, netB_ok (by decide +kernel), by decide, fun GH v s16 PL => ?_⟩
    rw [k28_p1] at PL
    obtain rfl : v = .non := PL
    refine ⟨rfl, false, rfl, iteF ?_⟩
    refine ⟨(by show 0 ≤ sizeLine; decide), fun tg0 nt => ?_⟩
    refine nil_of ?_
    refine net0_case (p := 3) (h := 2) nt (netB_ok (by decide +kernel)) fun GI g0 G0' s17 LM => ?_
    refine ⟨g0, tg0, 3, 2, 0, _, G0', rfl, LM, netB_ok (by decide +kernel), by decide, fun GJ v s18 PL => ?_⟩
    rw [k28_p2] at PL
    obtain ⟨u, rfl, hu⟩ := PL
    refine ⟨(by show 0 ≤ sizeLine; decide), fun z nz => ?_⟩
    have s19 := same_upd (o := HO.tup []) nz
    refine ⟨.tuple [], .tuple [], .tup (FzT.sq (hu.keep (fk_of s19))) .nil, .tup (SqT.of upd_same) .nil, by decide +kernel, by decide +kernel, false, rfl, iteF ?_⟩
    have sz := s15.trans (s16.trans (s17.trans (s18.trans s19)))
    have NA := NA.same sz
    have hlf := sz _ _ hlf
    refine ⟨_, rfl, lf, _, 0, _, rfl, rfl, SqL.of hlf, atI_nat (j := 0) rfl, ?_⟩
    refine ⟨(by show 5 ≤ sizeLine; decide), fun u nu => ⟨(by show 1 ≤ sizeLine; decide), fun ti0 nt => ?_⟩⟩
    refine nil_of ?_
    refine net1_case (p := 25) (h := 2) (o := ⟨0, 1, 24, 1, 9⟩) nu nt (netB_ok (by decide +kernel)) fun GK i0 I0 s20 LK => ?_
    refine ⟨a0, ta0, i0, ti0, 25, 3, 25, 2, _, _, A0, I0, rfl, NA.same s20, LK, netB_ok (by decide +kernel), netB_ok (by decide +kernel), by decide +kernel, fun GL v s21 DF => ?_⟩
    obtain rfl := diff_no DF k28_d4
    exact ⟨rfl, qz GL⟩
end
set_option maxHeartbeats 0 in
theorem all_mk {l : PySem.W.OpenLaw} {w : World} {K : PySem.W.Frag} {h : Heap} {mg : Str → Option Value} {fa : Addr} (X : K.In h) (G : h.Ns mainGlobals mg) (hfa : mg "law" = some (.ref fa)) (own : LamX.OwnTab K fa h)
    {C_Net : Addr}
    {cL PL : Addr} {ecL : Value} {dcL : Option Addr} {vsL : Array Value} {slcL : Array (Option Value)}
    {f1 : Addr} {od1 an1 : Option Addr} {sl1 : Array (Option Value)} {oc1 kV1 dc1 pm1 cd1 ct1 : Value}
    {f2 : Addr} {od2 an2 : Option Addr} {sl2 : Array (Option Value)} {oc2 kV2 dc2 pm2 cd2 ct2 : Value}
    {f3 : Addr} {od3 an3 : Option Addr} {sl3 : Array (Option Value)} {oc3 kV3 dc3 pm3 cd3 ct3 : Value}
    {f4 : Addr} {od4 an4 : Option Addr} {sl4 : Array (Option Value)} {oc4 kV4 dc4 pm4 cd4 ct4 : Value}
    {f5 : Addr} {od5 an5 : Option Addr} {sl5 : Array (Option Value)} {oc5 kV5 dc5 pm5 cd5 ct5 : Value}
    {f6 : Addr} {od6 an6 : Option Addr} {sl6 : Array (Option Value)} {oc6 kV6 dc6 pm6 cd6 ct6 : Value}
    {f7 : Addr} {od7 an7 : Option Addr} {sl7 : Array (Option Value)} {oc7 kV7 dc7 pm7 cd7 ct7 : Value}
    {f8 : Addr} {od8 an8 : Option Addr} {sl8 : Array (Option Value)} {oc8 kV8 dc8 pm8 cd8 ct8 : Value}
    {f9 : Addr} {od9 an9 : Option Addr} {sl9 : Array (Option Value)} {oc9 kV9 dc9 pm9 cd9 ct9 : Value}
    {f10 : Addr} {od10 an10 : Option Addr} {sl10 : Array (Option Value)} {oc10 kV10 dc10 pm10 cd10 ct10 : Value}
    {f11 : Addr} {od11 an11 : Option Addr} {sl11 : Array (Option Value)} {oc11 kV11 dc11 pm11 cd11 ct11 : Value}
    {f12 : Addr} {od12 an12 : Option Addr} {sl12 : Array (Option Value)} {oc12 kV12 dc12 pm12 cd12 ct12 : Value}
    {f13 : Addr} {od13 an13 : Option Addr} {sl13 : Array (Option Value)} {oc13 kV13 dc13 pm13 cd13 ct13 : Value}
    {f14 : Addr} {od14 an14 : Option Addr} {sl14 : Array (Option Value)} {oc14 kV14 dc14 pm14 cd14 ct14 : Value}
    {f15 : Addr} {od15 an15 : Option Addr} {sl15 : Array (Option Value)} {oc15 kV15 dc15 pm15 cd15 ct15 : Value}
    {f16 : Addr} {od16 an16 : Option Addr} {sl16 : Array (Option Value)} {oc16 kV16 dc16 pm16 cd16 ct16 : Value}
    {f17 : Addr} {od17 an17 : Option Addr} {sl17 : Array (Option Value)} {oc17 kV17 dc17 pm17 cd17 ct17 : Value}
    {f18 : Addr} {od18 an18 : Option Addr} {sl18 : Array (Option Value)} {oc18 kV18 dc18 pm18 cd18 ct18 : Value}
    {f19 : Addr} {od19 an19 : Option Addr} {sl19 : Array (Option Value)} {oc19 kV19 dc19 pm19 cd19 ct19 : Value}
    {f20 : Addr} {od20 an20 : Option Addr} {sl20 : Array (Option Value)} {oc20 kV20 dc20 pm20 cd20 ct20 : Value}
    {f21 : Addr} {od21 an21 : Option Addr} {sl21 : Array (Option Value)} {oc21 kV21 dc21 pm21 ct21 : Value}
    {f22 : Addr} {od22 an22 : Option Addr} {sl22 : Array (Option Value)} {oc22 kV22 dc22 pm22 cd22 ct22 : Value}
    {f23 : Addr} {od23 an23 : Option Addr} {sl23 : Array (Option Value)} {oc23 kV23 dc23 pm23 cd23 ct23 : Value}
    {tkLONGEST_PERIOD : Tok}
    {tkMOST_HOUSES : Tok}
    {tkMOST_ORDERS : Tok}
    {tkLONGEST_DELAY : Tok}
    {tkHIGHEST_LIMIT : Tok}
    {tkLONGEST_MULTIPLE : Tok}
    {CP E0 E1 E2 E3 E4 E5 E6 E7 E8 E9 E10 E11 E12 E13 E14 : Addr}
    (aCNet : PySem.W.nsIn K mainGlobals "Net" = some (some (.ref C_Net)))
    (a1 : PySem.W.nsIn K mainGlobals "is_integer" = some (some (.ref f1)))
    (l1 : K.lookup f1 = some ⟨oc1, od1, .func (PySem.W.fnOf "is_integer" "is_integer" (defArgs s_is_integer) (defBody s_is_integer) (defScope s_is_integer) .none kV1 dc1 pm1 an1 cd1 ct1), sl1⟩)
    (c1 : PySem.W.codeIn K cd1 "is_integer" = true)
    (k1 : PySem.W.keepIn K (.ref f1) = true)
    (a2 : PySem.W.nsIn K mainGlobals "is_within" = some (some (.ref f2)))
    (l2 : K.lookup f2 = some ⟨oc2, od2, .func (PySem.W.fnOf "is_within" "is_within" (defArgs s_is_within) (defBody s_is_within) (defScope s_is_within) .none kV2 dc2 pm2 an2 cd2 ct2), sl2⟩)
    (c2 : PySem.W.codeIn K cd2 "is_within" = true)
    (k2 : PySem.W.keepIn K (.ref f2) = true)
    (a3 : PySem.W.nsIn K mainGlobals "is_order" = some (some (.ref f3)))
    (l3 : K.lookup f3 = some ⟨oc3, od3, .func (PySem.W.fnOf "is_order" "is_order" (defArgs s_is_order) (defBody s_is_order) (defScope s_is_order) .none kV3 dc3 pm3 an3 cd3 ct3), sl3⟩)
    (c3 : PySem.W.codeIn K cd3 "is_order" = true)
    (k3 : PySem.W.keepIn K (.ref f3) = true)
    (a4 : PySem.W.nsIn K mainGlobals "check_orders" = some (some (.ref f4)))
    (l4 : K.lookup f4 = some ⟨oc4, od4, .func (PySem.W.fnOf "check_orders" "check_orders" (defArgs s_check_orders) (defBody s_check_orders) (defScope s_check_orders) .none kV4 dc4 pm4 an4 cd4 ct4), sl4⟩)
    (c4 : PySem.W.codeIn K cd4 "check_orders" = true)
    (k4 : PySem.W.keepIn K (.ref f4) = true)
    (a5 : PySem.W.nsIn K mainGlobals "find_followed" = some (some (.ref f5)))
    (l5 : K.lookup f5 = some ⟨oc5, od5, .func (PySem.W.fnOf "find_followed" "find_followed" (defArgs s_find_followed) (defBody s_find_followed) (defScope s_find_followed) .none kV5 dc5 pm5 an5 cd5 ct5), sl5⟩)
    (c5 : PySem.W.codeIn K cd5 "find_followed" = true)
    (k5 : PySem.W.keepIn K (.ref f5) = true)
    (a6 : PySem.W.nsIn K mainGlobals "_law_random" = some (some (.ref f6)))
    (l6 : K.lookup f6 = some ⟨oc6, od6, .func (PySem.W.fnOf "_law_random" "_law_random" (defArgs s_l_random) (defBody s_l_random) (defScope s_l_random) .none kV6 dc6 pm6 an6 cd6 ct6), sl6⟩)
    (c6 : PySem.W.codeIn K cd6 "_law_random" = true)
    (k6 : PySem.W.keepIn K (.ref f6) = true)
    (a7 : PySem.W.nsIn K mainGlobals "_law_below" = some (some (.ref f7)))
    (l7 : K.lookup f7 = some ⟨oc7, od7, .func (PySem.W.fnOf "_law_below" "_law_below" (defArgs s_l_below) (defBody s_l_below) (defScope s_l_below) .none kV7 dc7 pm7 an7 cd7 ct7), sl7⟩)
    (c7 : PySem.W.codeIn K cd7 "_law_below" = true)
    (k7 : PySem.W.keepIn K (.ref f7) = true)
    (a8 : PySem.W.nsIn K mainGlobals "letters" = some (some (.ref f8)))
    (l8 : K.lookup f8 = some ⟨oc8, od8, .func (PySem.W.fnOf "letters" "letters" (defArgs s_letters) (defBody s_letters) (defScope s_letters) .none kV8 dc8 pm8 an8 cd8 ct8), sl8⟩)
    (c8 : PySem.W.codeIn K cd8 "letters" = true)
    (k8 : PySem.W.keepIn K (.ref f8) = true)
    (a9 : PySem.W.nsIn K mainGlobals "add_ways" = some (some (.ref f9)))
    (l9 : K.lookup f9 = some ⟨oc9, od9, .func (PySem.W.fnOf "add_ways" "add_ways" (defArgs s_add_ways) (defBody s_add_ways) (defScope s_add_ways) .none kV9 dc9 pm9 an9 cd9 ct9), sl9⟩)
    (c9 : PySem.W.codeIn K cd9 "add_ways" = true)
    (k9 : PySem.W.keepIn K (.ref f9) = true)
    (a10 : PySem.W.nsIn K mainGlobals "find_ways" = some (some (.ref f10)))
    (l10 : K.lookup f10 = some ⟨oc10, od10, .func (PySem.W.fnOf "find_ways" "find_ways" (defArgs s_find_ways) (defBody s_find_ways) (defScope s_find_ways) .none kV10 dc10 pm10 an10 cd10 ct10), sl10⟩)
    (c10 : PySem.W.codeIn K cd10 "find_ways" = true)
    (k10 : PySem.W.keepIn K (.ref f10) = true)
    (a11 : PySem.W.nsIn K mainGlobals "count_chasing" = some (some (.ref f11)))
    (l11 : K.lookup f11 = some ⟨oc11, od11, .func (PySem.W.fnOf "count_chasing" "count_chasing" (defArgs s_count_chasing) (defBody s_count_chasing) (defScope s_count_chasing) .none kV11 dc11 pm11 an11 cd11 ct11), sl11⟩)
    (c11 : PySem.W.codeIn K cd11 "count_chasing" = true)
    (k11 : PySem.W.keepIn K (.ref f11) = true)
    (a12 : PySem.W.nsIn K mainGlobals "common_multiple" = some (some (.ref f12)))
    (l12 : K.lookup f12 = some ⟨oc12, od12, .func (PySem.W.fnOf "common_multiple" "common_multiple" (defArgs s_common_multiple) (defBody s_common_multiple) (defScope s_common_multiple) .none kV12 dc12 pm12 an12 cd12 ct12), sl12⟩)
    (c12 : PySem.W.codeIn K cd12 "common_multiple" = true)
    (k12 : PySem.W.keepIn K (.ref f12) = true)
    (a13 : PySem.W.nsIn K mainGlobals "result_on" = some (some (.ref f13)))
    (l13 : K.lookup f13 = some ⟨oc13, od13, .func (PySem.W.fnOf "result_on" "result_on" (defArgs s_result_on) (defBody s_result_on) (defScope s_result_on) .none kV13 dc13 pm13 an13 cd13 ct13), sl13⟩)
    (c13 : PySem.W.codeIn K cd13 "result_on" = true)
    (k13 : PySem.W.keepIn K (.ref f13) = true)
    (a14 : PySem.W.nsIn K mainGlobals "first_difference" = some (some (.ref f14)))
    (l14 : K.lookup f14 = some ⟨oc14, od14, .func (PySem.W.fnOf "first_difference" "first_difference" (defArgs s_first_difference) (defBody s_first_difference) (defScope s_first_difference) .none kV14 dc14 pm14 an14 cd14 ct14), sl14⟩)
    (c14 : PySem.W.codeIn K cd14 "first_difference" = true)
    (k14 : PySem.W.keepIn K (.ref f14) = true)
    (a15 : PySem.W.nsIn K mainGlobals "list_plans" = some (some (.ref f15)))
    (l15 : K.lookup f15 = some ⟨oc15, od15, .func (PySem.W.fnOf "list_plans" "list_plans" (defArgs s_list_plans) (defBody s_list_plans) (defScope s_list_plans) .none kV15 dc15 pm15 an15 cd15 ct15), sl15⟩)
    (c15 : PySem.W.codeIn K cd15 "list_plans" = true)
    (k15 : PySem.W.keepIn K (.ref f15) = true)
    (a16 : PySem.W.nsIn K mainGlobals "may_prolong" = some (some (.ref f16)))
    (l16 : K.lookup f16 = some ⟨oc16, od16, .func (PySem.W.fnOf "may_prolong" "may_prolong" (defArgs s_may_prolong) (defBody s_may_prolong) (defScope s_may_prolong) .none kV16 dc16 pm16 an16 cd16 ct16), sl16⟩)
    (c16 : PySem.W.codeIn K cd16 "may_prolong" = true)
    (k16 : PySem.W.keepIn K (.ref f16) = true)
    (a17 : PySem.W.nsIn K mainGlobals "prolonged" = some (some (.ref f17)))
    (l17 : K.lookup f17 = some ⟨oc17, od17, .func (PySem.W.fnOf "prolonged" "prolonged" (defArgs s_prolonged) (defBody s_prolonged) (defScope s_prolonged) .none kV17 dc17 pm17 an17 cd17 ct17), sl17⟩)
    (c17 : PySem.W.codeIn K cd17 "prolonged" = true)
    (k17 : PySem.W.keepIn K (.ref f17) = true)
    (a18 : PySem.W.nsIn K mainGlobals "plan_days" = some (some (.ref f18)))
    (l18 : K.lookup f18 = some ⟨oc18, od18, .func (PySem.W.fnOf "plan_days" "plan_days" (defArgs s_plan_days) (defBody s_plan_days) (defScope s_plan_days) .none kV18 dc18 pm18 an18 cd18 ct18), sl18⟩)
    (c18 : PySem.W.codeIn K cd18 "plan_days" = true)
    (k18 : PySem.W.keepIn K (.ref f18) = true)
    (a19 : PySem.W.nsIn K mainGlobals "_law_error_of" = some (some (.ref f19)))
    (l19 : K.lookup f19 = some ⟨oc19, od19, .func (PySem.W.fnOf "_law_error_of" "_law_error_of" (defArgs s_l_error_of) (defBody s_l_error_of) (defScope s_l_error_of) .none kV19 dc19 pm19 an19 cd19 ct19), sl19⟩)
    (c19 : PySem.W.codeIn K cd19 "_law_error_of" = true)
    (k19 : PySem.W.keepIn K (.ref f19) = true)
    (a20 : PySem.W.nsIn K mainGlobals "_law_all_raise" = some (some (.ref f20)))
    (l20 : K.lookup f20 = some ⟨oc20, od20, .func (PySem.W.fnOf "_law_all_raise" "_law_all_raise" (defArgs s_l_all_raise) (defBody s_l_all_raise) (defScope s_l_all_raise) .none kV20 dc20 pm20 an20 cd20 ct20), sl20⟩)
    (c20 : PySem.W.codeIn K cd20 "_law_all_raise" = true)
    (k20 : PySem.W.keepIn K (.ref f20) = true)
    (a21 : PySem.W.nsIn K mainGlobals "law" = some (some (.ref f21)))
    (l21 : K.lookup f21 = some ⟨oc21, od21, .func (PySem.W.fnOf "law" "law" (defArgs s_law) (defBody s_law) (defScope s_law) .none kV21 dc21 pm21 an21 (.ref cL) ct21), sl21⟩)
    (c21 : PySem.W.codeIn K (.ref cL) "law" = true)
    (k21 : PySem.W.keepIn K (.ref f21) = true)
    (a22 : PySem.W.findIn K (.ref C_Net) "__init__" = some (some (.ref f22)))
    (i22 : PySem.W.isFn K (.ref f22) = true)
    (l22 : K.lookup f22 = some ⟨oc22, od22, .func (PySem.W.fnOf "__init__" "Net.__init__" (defArgs s_Net_init) (defBody s_Net_init) (defScope s_Net_init) .none kV22 dc22 pm22 an22 cd22 ct22), sl22⟩)
    (c22 : PySem.W.codeIn K cd22 "Net.__init__" = true)
    (k22 : PySem.W.keepIn K (.ref f22) = true)
    (a23 : PySem.W.findIn K (.ref C_Net) "stop_after" = some (some (.ref f23)))
    (i23 : PySem.W.isFn K (.ref f23) = true)
    (l23 : K.lookup f23 = some ⟨oc23, od23, .func (PySem.W.fnOf "stop_after" "Net.stop_after" (defArgs s_Net_stop_after) (defBody s_Net_stop_after) (defScope s_Net_stop_after) .none kV23 dc23 pm23 an23 cd23 ct23), sl23⟩)
    (c23 : PySem.W.codeIn K cd23 "Net.stop_after" = true)
    (k23 : PySem.W.keepIn K (.ref f23) = true)
    (pgNet : PySem.W.plainGet K C_Net Str.empty = true)
    (hdNet : PySem.W.hasDictIn K C_Net = true)
    (poNet : PySem.W.plainOver K C_Net = true)
    (saNet : PySem.W.findIn K (.ref C_Net) "__setattr__" = some (some (.builtin "object.__setattr__")))
    (mkNet : PySem.W.makesIn K C_Net = true)
    (kcNet : PySem.W.keepIn K (.ref C_Net) = true)
    (nNet_period : PySem.W.findIn K (.ref C_Net) "period" = some none)
    (nNet_houses : PySem.W.findIn K (.ref C_Net) "houses" = some none)
    (nNet_orders : PySem.W.findIn K (.ref C_Net) "orders" = some none)
    (nNet_followed : PySem.W.findIn K (.ref C_Net) "followed" = some none)
    (vLONGEST_PERIOD : PySem.W.nsIn K mainGlobals "LONGEST_PERIOD" = some (some (.int 30 tkLONGEST_PERIOD)))
    (vMOST_HOUSES : PySem.W.nsIn K mainGlobals "MOST_HOUSES" = some (some (.int 10 tkMOST_HOUSES)))
    (vMOST_ORDERS : PySem.W.nsIn K mainGlobals "MOST_ORDERS" = some (some (.int 20 tkMOST_ORDERS)))
    (vLONGEST_DELAY : PySem.W.nsIn K mainGlobals "LONGEST_DELAY" = some (some (.int 9 tkLONGEST_DELAY)))
    (vHIGHEST_LIMIT : PySem.W.nsIn K mainGlobals "HIGHEST_LIMIT" = some (some (.int 3 tkHIGHEST_LIMIT)))
    (vLONGEST_MULTIPLE : PySem.W.nsIn K mainGlobals "LONGEST_MULTIPLE" = some (some (.int 400 tkLONGEST_MULTIPLE)))
    (zlen : PySem.W.nsIn K mainGlobals "len" = some none)
    (zrange : PySem.W.nsIn K mainGlobals "range" = some none)
    (zisinstance : PySem.W.nsIn K mainGlobals "isinstance" = some none)
    (zint : PySem.W.nsIn K mainGlobals "int" = some none)
    (zbool : PySem.W.nsIn K mainGlobals "bool" = some none)
    (zstr : PySem.W.nsIn K mainGlobals "str" = some none)
    (ztuple : PySem.W.nsIn K mainGlobals "tuple" = some none)
    (zlist : PySem.W.nsIn K mainGlobals "list" = some none)
    (zall : PySem.W.nsIn K mainGlobals "all" = some none)
    (zabs : PySem.W.nsIn K mainGlobals "abs" = some none)
    (zenumerate : PySem.W.nsIn K mainGlobals "enumerate" = some none)
    (zmax : PySem.W.nsIn K mainGlobals "max" = some none)
    (zmin : PySem.W.nsIn K mainGlobals "min" = some none)
    (tl : K.lookup cL = some ⟨ecL, dcL, .fields vsL, slcL⟩)
    (t11 : vsL[11]? = some (.ref PL))
    (tP : K.lookup PL = none)
    (th : PySem.W.codeHdIn K cL PL = true)
    (gEP : PySem.W.nsIn K mainGlobals "PostError" = some (some (.ref CP)))
    (iEP : PySem.W.isClsIn K CP = true)
    (tEP : PySem.W.typeIn K (.ref CP) = some (.type "type"))
    (bEP : PySem.W.subIn K (.ref CP) (.type "BaseException") = some true)
    (zVE : PySem.W.nsIn K mainGlobals "ValueError" = some none)
    (gE0 : PySem.W.nsIn K mainGlobals "InvalidDay" = some (some (.ref E0)))
    (iE0 : PySem.W.isClsIn K E0 = true)
    (tE0 : PySem.W.typeIn K (.ref E0) = some (.type "type"))
    (gE1 : PySem.W.nsIn K mainGlobals "UnknownHouse" = some (some (.ref E1)))
    (iE1 : PySem.W.isClsIn K E1 = true)
    (tE1 : PySem.W.typeIn K (.ref E1) = some (.type "type"))
    (gE2 : PySem.W.nsIn K mainGlobals "UnknownOrder" = some (some (.ref E2)))
    (iE2 : PySem.W.isClsIn K E2 = true)
    (tE2 : PySem.W.typeIn K (.ref E2) = some (.type "type"))
    (gE3 : PySem.W.nsIn K mainGlobals "InvalidLimit" = some (some (.ref E3)))
    (iE3 : PySem.W.isClsIn K E3 = true)
    (tE3 : PySem.W.typeIn K (.ref E3) = some (.type "type"))
    (gE4 : PySem.W.nsIn K mainGlobals "InvalidOrder" = some (some (.ref E4)))
    (iE4 : PySem.W.isClsIn K E4 = true)
    (tE4 : PySem.W.typeIn K (.ref E4) = some (.type "type"))
    (gE5 : PySem.W.nsIn K mainGlobals "TooManyOrders" = some (some (.ref E5)))
    (iE5 : PySem.W.isClsIn K E5 = true)
    (tE5 : PySem.W.typeIn K (.ref E5) = some (.type "type"))
    (gE6 : PySem.W.nsIn K mainGlobals "TooLong" = some (some (.ref E6)))
    (iE6 : PySem.W.isClsIn K E6 = true)
    (tE6 : PySem.W.typeIn K (.ref E6) = some (.type "type"))
    (gE7 : PySem.W.nsIn K mainGlobals "InvalidResult" = some (some (.ref E7)))
    (iE7 : PySem.W.isClsIn K E7 = true)
    (tE7 : PySem.W.typeIn K (.ref E7) = some (.type "type"))
    (gE8 : PySem.W.nsIn K mainGlobals "Contradiction" = some (some (.ref E8)))
    (iE8 : PySem.W.isClsIn K E8 = true)
    (tE8 : PySem.W.typeIn K (.ref E8) = some (.type "type"))
    (gE9 : PySem.W.nsIn K mainGlobals "InvalidName" = some (some (.ref E9)))
    (iE9 : PySem.W.isClsIn K E9 = true)
    (tE9 : PySem.W.typeIn K (.ref E9) = some (.type "type"))
    (gE10 : PySem.W.nsIn K mainGlobals "UnknownName" = some (some (.ref E10)))
    (iE10 : PySem.W.isClsIn K E10 = true)
    (tE10 : PySem.W.typeIn K (.ref E10) = some (.type "type"))
    (gE11 : PySem.W.nsIn K mainGlobals "InvalidNet" = some (some (.ref E11)))
    (iE11 : PySem.W.isClsIn K E11 = true)
    (tE11 : PySem.W.typeIn K (.ref E11) = some (.type "type"))
    (gE12 : PySem.W.nsIn K mainGlobals "TextFault" = some (some (.ref E12)))
    (iE12 : PySem.W.isClsIn K E12 = true)
    (tE12 : PySem.W.typeIn K (.ref E12) = some (.type "type"))
    (gE13 : PySem.W.nsIn K mainGlobals "InvalidCode" = some (some (.ref E13)))
    (iE13 : PySem.W.isClsIn K E13 = true)
    (tE13 : PySem.W.typeIn K (.ref E13) = some (.type "type"))
    (gE14 : PySem.W.nsIn K mainGlobals "InvalidOperation" = some (some (.ref E14)))
    (iE14 : PySem.W.isClsIn K E14 = true)
    (tE14 : PySem.W.typeIn K (.ref E14) = some (.type "type"))
    (heN : PySem.W.specialIn K (.builtin "object.__class__") "__get__" = some (some (.builtin "getset_descriptor.__get__")))
    (heT : PySem.W.takesIn K (.builtin "object.__class__") = some true)
    (sE6_0 : PySem.W.subIn K (.ref E6) (.ref E0) = some false)
    (sE6_1 : PySem.W.subIn K (.ref E6) (.ref E1) = some false)
    (sE6_2 : PySem.W.subIn K (.ref E6) (.ref E2) = some false)
    (sE6_3 : PySem.W.subIn K (.ref E6) (.ref E3) = some false)
    (sE6_4 : PySem.W.subIn K (.ref E6) (.ref E4) = some false)
    (sE6_5 : PySem.W.subIn K (.ref E6) (.ref E5) = some false)
    (sE6_6 : PySem.W.subIn K (.ref E6) (.ref E6) = some true)
    (sE6_7 : PySem.W.subIn K (.ref E6) (.ref E7) = some false)
    (sE6_8 : PySem.W.subIn K (.ref E6) (.ref E8) = some false)
    (sE6_9 : PySem.W.subIn K (.ref E6) (.ref E9) = some false)
    (sE6_10 : PySem.W.subIn K (.ref E6) (.ref E10) = some false)
    (sE6_11 : PySem.W.subIn K (.ref E6) (.ref E11) = some false)
    (sE6_12 : PySem.W.subIn K (.ref E6) (.ref E12) = some false)
    (sE6_13 : PySem.W.subIn K (.ref E6) (.ref E13) = some false)
    (sE6_14 : PySem.W.subIn K (.ref E6) (.ref E14) = some false)
    (sE6_P : PySem.W.subIn K (.ref E6) (.ref CP) = some true)
    (bE6 : PySem.W.subIn K (.ref E6) (.type "BaseException") = some true)
    (vE6 : PySem.W.subIn K (.ref E6) (.type "ValueError") = some true)
    (kE6 : PySem.W.keepIn K (.ref E6) = true)
    (h1E6 : PySem.W.findIn K (.ref E6) "__getattribute__" = some (some (.builtin "BaseException.__getattribute__")))
    (h2E6 : PySem.W.findIn K (.ref E6) "__getattr__" = some none)
    (h3E6 : PySem.W.hasDictIn K E6 = true)
    (h4E6 : PySem.W.findIn K (.ref E6) "__class__" = some (some (.builtin "object.__class__")))
    (h5E6 : PySem.W.mroIn K E6 (.type "object") = some true)
    (xE6 : PySem.W.excIn K E6 [.type "ValueError", .type "Exception", .type "BaseException", .type "object"] "ValueError.__new__" = true)
    : LamX.LawAtS l w K CX0 9 63 "_law_script" mg fa h := by
  have e := hfa.symm.trans (PySem.W.mg_of X G a21)
  cases e
  have G_Net := PySem.W.mg_of X G aCNet
  have T_Net : NetT K C_Net := ⟨⟨pgNet, hdNet, poNet, saNet⟩, nNet_period, nNet_houses, nNet_orders, nNet_followed⟩
  have K_LONGEST_PERIOD : ∃ t, mg "LONGEST_PERIOD" = some (.int 30 t) := ⟨_, PySem.W.mg_of X G vLONGEST_PERIOD⟩
  have K_MOST_HOUSES : ∃ t, mg "MOST_HOUSES" = some (.int 10 t) := ⟨_, PySem.W.mg_of X G vMOST_HOUSES⟩
  have K_MOST_ORDERS : ∃ t, mg "MOST_ORDERS" = some (.int 20 t) := ⟨_, PySem.W.mg_of X G vMOST_ORDERS⟩
  have K_LONGEST_DELAY : ∃ t, mg "LONGEST_DELAY" = some (.int 9 t) := ⟨_, PySem.W.mg_of X G vLONGEST_DELAY⟩
  have K_HIGHEST_LIMIT : ∃ t, mg "HIGHEST_LIMIT" = some (.int 3 t) := ⟨_, PySem.W.mg_of X G vHIGHEST_LIMIT⟩
  have K_LONGEST_MULTIPLE : ∃ t, mg "LONGEST_MULTIPLE" = some (.int 400 t) := ⟨_, PySem.W.mg_of X G vLONGEST_MULTIPLE⟩
  have B : Blt mg := ⟨PySem.W.mg_none_of X G zlen, PySem.W.mg_none_of X G zrange, PySem.W.mg_none_of X G zisinstance, PySem.W.mg_none_of X G zint, PySem.W.mg_none_of X G zbool, PySem.W.mg_none_of X G zstr, PySem.W.mg_none_of X G ztuple, PySem.W.mg_none_of X G zlist, PySem.W.mg_none_of X G zall, PySem.W.mg_none_of X G zabs, PySem.W.mg_none_of X G zenumerate⟩
  have Z_max : mg "max" = none := PySem.W.mg_none_of X G zmax
  have Z_min : mg "min" = none := PySem.W.mg_none_of X G zmin
  let cE : Nat → Addr := fun j => ([E0, E1, E2, E3, E4, E5, E6, E7, E8, E9, E10, E11, E12, E13, E14] : List Addr).getD j 0
  have ME : ErrM mg CP cE := ⟨PySem.W.mg_of X G gEP, PySem.W.mg_of X G gE0, PySem.W.mg_of X G gE1, PySem.W.mg_of X G gE2, PySem.W.mg_of X G gE3, PySem.W.mg_of X G gE4, PySem.W.mg_of X G gE5, PySem.W.mg_of X G gE6, PySem.W.mg_of X G gE7, PySem.W.mg_of X G gE8, PySem.W.mg_of X G gE9, PySem.W.mg_of X G gE10, PySem.W.mg_of X G gE11, PySem.W.mg_of X G gE12, PySem.W.mg_of X G gE13, PySem.W.mg_of X G gE14, PySem.W.mg_none_of X G zVE⟩
  have X_TooLong : Err15 K CP cE E6 6 := err15_mk (by decide) ⟨h1E6, h2E6, bE6, h3E6, h4E6, heN, heT, h5E6⟩ (exm_mk bEP iEP tEP sE6_P) vE6 rfl fun j hj => match j, hj with
    | 0, _ => ⟨iE0, tE0, sE6_0⟩
    | 1, _ => ⟨iE1, tE1, sE6_1⟩
    | 2, _ => ⟨iE2, tE2, sE6_2⟩
    | 3, _ => ⟨iE3, tE3, sE6_3⟩
    | 4, _ => ⟨iE4, tE4, sE6_4⟩
    | 5, _ => ⟨iE5, tE5, sE6_5⟩
    | 6, _ => ⟨iE6, tE6, sE6_6⟩
    | 7, _ => ⟨iE7, tE7, sE6_7⟩
    | 8, _ => ⟨iE8, tE8, sE6_8⟩
    | 9, _ => ⟨iE9, tE9, sE6_9⟩
    | 10, _ => ⟨iE10, tE10, sE6_10⟩
    | 11, _ => ⟨iE11, tE11, sE6_11⟩
    | 12, _ => ⟨iE12, tE12, sE6_12⟩
    | 13, _ => ⟨iE13, tE13, sE6_13⟩
    | 14, _ => ⟨iE14, tE14, sE6_14⟩
    | j + 15, h => absurd h (by omega)
  have R_TooLong : ErrR K mg "TooLong" E6 := ⟨PySem.W.mg_of X G gE6, xE6, kE6, bE6, tE6⟩
  have G_is_integer := PySem.W.mg_of X G a1
  have F_is_integer := fun_mk (st := s_is_integer) l1 c1 k1
  have B_is_integer := F_is_integer.binds (ps := P_is_integer) fun _ _ _ _ _ _ us hl => match us, hl with | [_], _ => rfl
  have G_is_within := PySem.W.mg_of X G a2
  have F_is_within := fun_mk (st := s_is_within) l2 c2 k2
  have B_is_within := F_is_within.binds (ps := P_is_within) fun _ _ _ _ _ _ us hl => match us, hl with | [_, _, _], _ => rfl
  have G_is_order := PySem.W.mg_of X G a3
  have F_is_order := fun_mk (st := s_is_order) l3 c3 k3
  have B_is_order := F_is_order.binds (ps := P_is_order) fun _ _ _ _ _ _ us hl => match us, hl with | [_, _, _], _ => rfl
  have G_check_orders := PySem.W.mg_of X G a4
  have F_check_orders := fun_mk (st := s_check_orders) l4 c4 k4
  have B_check_orders := F_check_orders.binds (ps := P_check_orders) fun _ _ _ _ _ _ us hl => match us, hl with | [_, _, _], _ => rfl
  have G_find_followed := PySem.W.mg_of X G a5
  have F_find_followed := fun_mk (st := s_find_followed) l5 c5 k5
  have B_find_followed := F_find_followed.binds (ps := P_find_followed) fun _ _ _ _ _ _ us hl => match us, hl with | [_, _, _], _ => rfl
  have G_l_random := PySem.W.mg_of X G a6
  have F_l_random := fun_mk (st := s_l_random) l6 c6 k6
  have B_l_random := F_l_random.binds (ps := P_l_random) fun _ _ _ _ _ _ us hl => match us, hl with | [_, _], _ => rfl
  have G_l_below := PySem.W.mg_of X G a7
  have F_l_below := fun_mk (st := s_l_below) l7 c7 k7
  have B_l_below := F_l_below.binds (ps := P_l_below) fun _ _ _ _ _ _ us hl => match us, hl with | [_, _], _ => rfl
  have G_letters := PySem.W.mg_of X G a8
  have F_letters := fun_mk (st := s_letters) l8 c8 k8
  have B_letters := F_letters.binds (ps := P_letters) fun _ _ _ _ _ _ us hl => match us, hl with | [_], _ => rfl
  have G_add_ways := PySem.W.mg_of X G a9
  have F_add_ways := fun_mk (st := s_add_ways) l9 c9 k9
  have B_add_ways := F_add_ways.binds (ps := P_add_ways) fun _ _ _ _ _ _ us hl => match us, hl with | [_, _, _, _], _ => rfl
  have G_find_ways := PySem.W.mg_of X G a10
  have F_find_ways := fun_mk (st := s_find_ways) l10 c10 k10
  have B_find_ways := F_find_ways.binds (ps := P_find_ways) fun _ _ _ _ _ _ us hl => match us, hl with | [_], _ => rfl
  have G_count_chasing := PySem.W.mg_of X G a11
  have F_count_chasing := fun_mk (st := s_count_chasing) l11 c11 k11
  have B_count_chasing := F_count_chasing.binds (ps := P_count_chasing) fun _ _ _ _ _ _ us hl => match us, hl with | [_], _ => rfl
  have G_common_multiple := PySem.W.mg_of X G a12
  have F_common_multiple := fun_mk (st := s_common_multiple) l12 c12 k12
  have B_common_multiple := F_common_multiple.binds (ps := P_common_multiple) fun _ _ _ _ _ _ us hl => match us, hl with | [_, _], _ => rfl
  have G_result_on := PySem.W.mg_of X G a13
  have F_result_on := fun_mk (st := s_result_on) l13 c13 k13
  have B_result_on := F_result_on.binds (ps := P_result_on) fun _ _ _ _ _ _ us hl => match us, hl with | [_, _], _ => rfl
  have G_first_difference := PySem.W.mg_of X G a14
  have F_first_difference := fun_mk (st := s_first_difference) l14 c14 k14
  have B_first_difference := F_first_difference.binds (ps := P_first_difference) fun _ _ _ _ _ _ us hl => match us, hl with | [_, _], _ => rfl
  have G_list_plans := PySem.W.mg_of X G a15
  have F_list_plans := fun_mk (st := s_list_plans) l15 c15 k15
  have B_list_plans := F_list_plans.binds (ps := P_list_plans) fun _ _ _ _ _ _ us hl => match us, hl with | [_, _], _ => rfl
  have G_may_prolong := PySem.W.mg_of X G a16
  have F_may_prolong := fun_mk (st := s_may_prolong) l16 c16 k16
  have B_may_prolong := F_may_prolong.binds (ps := P_may_prolong) fun _ _ _ _ _ _ us hl => match us, hl with | [_, _], _ => rfl
  have G_prolonged := PySem.W.mg_of X G a17
  have F_prolonged := fun_mk (st := s_prolonged) l17 c17 k17
  have B_prolonged := F_prolonged.binds (ps := P_prolonged) fun _ _ _ _ _ _ us hl => match us, hl with | [_, _], _ => rfl
  have G_plan_days := PySem.W.mg_of X G a18
  have F_plan_days := fun_mk (st := s_plan_days) l18 c18 k18
  have B_plan_days := F_plan_days.binds (ps := P_plan_days) fun _ _ _ _ _ _ us hl => match us, hl with | [_, _], _ => rfl
  have G_l_error_of := PySem.W.mg_of X G a19
  have F_l_error_of := fun_mk (st := s_l_error_of) l19 c19 k19
  have B_l_error_of := F_l_error_of.binds (ps := P_l_error_of) fun _ _ _ _ _ _ us hl => match us, hl with | [_], _ => rfl
  have G_l_all_raise := PySem.W.mg_of X G a20
  have F_l_all_raise := fun_mk (st := s_l_all_raise) l20 c20 k20
  have B_l_all_raise := F_l_all_raise.binds (ps := P_l_all_raise) fun _ _ _ _ _ _ us hl => match us, hl with | [_, _], _ => rfl
  have G_law := PySem.W.mg_of X G a21
  have F_law : FunC K "law" "law" s_law fa _ cL := ⟨_, _, _, _, _, _, _, _, rfl, l21, c21⟩
  have F_Net_init := fun_mk (st := s_Net_init) l22 c22 k22
  have B_Net_init := F_Net_init.binds (ps := P_Net_init) fun _ _ _ _ _ _ us hl => match us, hl with | [_, _, _, _], _ => rfl
  have M_Net_init : Mk K C_Net f22 := ⟨mkNet, a22, i22, kcNet⟩
  have F_Net_stop_after := fun_mk (st := s_Net_stop_after) l23 c23 k23
  have B_Net_stop_after := F_Net_stop_after.binds (ps := P_Net_stop_after) fun _ _ _ _ _ _ us hl => match us, hl with | [_, _, _], _ => rfl
  have M_Net_stop_after : Meth K C_Net "stop_after" f23 := ⟨a23, i23, k23⟩
  refine ⟨PySem.W.fnOf "law" "law" (defArgs s_law) (defBody s_law) (defScope s_law) .none kV21 dc21 pm21 an21 (.ref cL) ct21, [(cL, PL)], spLawT K PL, fun p hp => ?_, fun p hp => ?_, fun p hp => ?_, fun s v => .of_eq rfl, fun H a ns hl _ hT hS => ⟨a, ns, rfl, hS, hl, hT _ List.mem_cons_self, fun _ => rfl⟩, fun base _ _ hTB => ?_⟩
  · rw [List.mem_singleton.mp hp]
    exact own cL PL _ _ _ _ _ _ l21 rfl rfl tl t11
  · rw [List.mem_singleton.mp hp]
    exact tP
  · rw [List.mem_singleton.mp hp]
    exact PySem.W.codeHd_of_K X th
  have TBl := hTB (cL, PL) List.mem_cons_self
  have D_isint : Df l.prog w K mg base "is_integer" 1 P_is_integer (spIsInt K) := ⟨_, _, G_is_integer, F_is_integer.kp, B_is_integer, ok_isint F_is_integer B⟩
  have D_within : Df l.prog w K mg base "is_within" 2 P_is_within (spWithin K) := ⟨_, _, G_is_within, F_is_within.kp, B_is_within, ok_within F_is_within D_isint⟩
  have D_order : Df l.prog w K mg base "is_order" 3 P_is_order (spIsOrder K) := ⟨_, _, G_is_order, F_is_order.kp, B_is_order, ok_is_order F_is_order B D_within K_LONGEST_DELAY⟩
  have D_chk : Df l.prog w K mg base "check_orders" 4 P_check_orders spChkOrders := ⟨_, _, G_check_orders, F_check_orders.kp, B_check_orders, ok_chk_orders F_check_orders B D_order K_MOST_ORDERS⟩
  have D_fol : Df l.prog w K mg base "find_followed" 2 P_find_followed spFollowed := ⟨_, _, G_find_followed, F_find_followed.kp, B_find_followed, ok_followed F_find_followed B⟩
  have D_rnd : Df l.prog w K mg base "_law_random" 2 P_l_random (spRandom K) := ⟨_, _, G_l_random, F_l_random.kp, B_l_random, ok_random F_l_random B⟩
  have D_bel : Df l.prog w K mg base "_law_below" 2 P_l_below spBelow := ⟨_, _, G_l_below, F_l_below.kp, B_l_below, ok_below F_l_below B.len⟩
  have O_init : FnOk l.prog w K mg base CX0 5 _ _ P_Net_init (spInit C_Net) := ok_init F_Net_init T_Net D_within D_chk D_fol K_LONGEST_PERIOD K_MOST_HOUSES
  have O_stop : FnOk l.prog w K mg base CX0 2 _ _ P_Net_stop_after (spStop C_Net) := ok_stop_after F_Net_stop_after T_Net
  have D_ls : Df l.prog w K mg base "letters" 2 P_letters (spLets C_Net) := ⟨_, _, G_letters, F_letters.kp, B_letters, ok_letters F_letters B T_Net⟩
  have D_aw : Df l.prog w K mg base "add_ways" 3 P_add_ways (spAddWays C_Net) := ⟨_, _, G_add_ways, F_add_ways.kp, B_add_ways, ok_add_ways F_add_ways T_Net O_stop M_Net_stop_after B_Net_stop_after⟩
  have D_fw : Df l.prog w K mg base "find_ways" 4 P_find_ways (spFindWays C_Net) := ⟨_, _, G_find_ways, F_find_ways.kp, B_find_ways, ok_find_ways F_find_ways D_ls D_aw⟩
  have D_cc : Df l.prog w K mg base "count_chasing" 5 P_count_chasing (spChasing C_Net) := ⟨_, _, G_count_chasing, F_count_chasing.kp, B_count_chasing, ok_chasing F_count_chasing B D_fw⟩
  have D_cm : Df l.prog w K mg base "common_multiple" 2 P_common_multiple spCommon := ⟨_, _, G_common_multiple, F_common_multiple.kp, B_common_multiple, ok_common F_common_multiple⟩
  have D_ro2 : Df l.prog w K mg base "result_on" 2 P_result_on spResOn := ⟨_, _, G_result_on, F_result_on.kp, B_result_on, ok_res_on F_result_on⟩
  have D_pl : Df l.prog w K mg base "list_plans" 1 P_list_plans spPlans := ⟨_, _, G_list_plans, F_list_plans.kp, B_list_plans, ok_plans F_list_plans B Z_max⟩
  have D_mp : Df l.prog w K mg base "may_prolong" 1 P_may_prolong (spMay C_Net) := ⟨_, _, G_may_prolong, F_may_prolong.kp, B_may_prolong, ok_may F_may_prolong B T_Net⟩
  have D_pr : Df l.prog w K mg base "prolonged" 7 P_prolonged (spProlonged C_Net) := ⟨_, _, G_prolonged, F_prolonged.kp, B_prolonged, ok_prolonged F_prolonged B T_Net M_Net_init G_Net O_init B_Net_init⟩
  have D_pd : Df l.prog w K mg base "plan_days" 8 P_plan_days (spPlanDays C_Net) := ⟨_, _, G_plan_days, F_plan_days.kp, B_plan_days, ok_plan_days F_plan_days B T_Net K_HIGHEST_LIMIT D_within D_pl D_mp D_cc D_pr⟩
  have O_fd : FnOk l.prog w K mg base CX0 5 _ _ P_first_difference (spFirstDiff C_Net) := ok_first_diff F_first_difference B T_Net Z_min K_LONGEST_MULTIPLE D_cm D_ro2 D_fw
  have O_fdX : FnOk l.prog w K mg base (L2.CX l.prog w) 3 _ _ P_first_difference (spFirstDiffX C_Net E6) := ok_first_diffX F_first_difference T_Net R_TooLong K_LONGEST_MULTIPLE D_cm
  have D_erv : Df l.prog w K mg base "_law_error_of" 5 P_l_error_of (spErrV l.prog w K mg base CP cE 4) := ⟨_, _, G_l_error_of, F_l_error_of.kp, B_l_error_of, ok_errv F_l_error_of B ME (by decide)⟩
  have shE : ∀ i, i < 15 → PySem.SeqAt.shaped (.tuple [.str (eName i), .int 0]) = true := by decide +kernel
  have O_ar : FnOk l.prog w K mg base CX0 7 _ _ P_l_all_raise (spAllR l.prog w K mg base cE 4 6) := ok_allr F_l_all_raise D_erv X_TooLong (by decide) shE
  exact ok_law F_law TBl B T_Net G_l_all_raise F_l_all_raise.kp B_l_all_raise O_ar D_rnd D_bel G_first_difference F_first_difference.kp B_first_difference O_fd O_fdX D_pd G_Net M_Net_init O_init B_Net_init
end Cp
open PySem PySem.W PyProof.Rows
set_option maxRecDepth 100000 in
set_option maxHeartbeats 0 in
theorem PySem.Challenge.cw_chasepost_k28_nets_with_long_periods_holds : PySem.Challenge.rw_chasepost_k28_nets_with_long_periods.Holds := by
  w_on; o_law; k_head; (case hw => w_witness2)
  k_fill
  refine LamX.walk_ofOwn (l := PySem.Challenge.rw_chasepost_k28_nets_with_long_periods) (n := 63) (k := 9) (x := "_law_script") (CX := fun _ => L2.CX0) rfl (by decide) rfl ⟨rfl, by decide, by decide⟩ (by decide +kernel) (fun w h Y => PySem.W.km_in_of Y) ?F (fun _ _ _ _ _ h => h)
  case F =>
    intro w mg fa h Y KX G hmg own
    refine' Cp.all_mk KX G hmg own ?aCNet ?a1 ?l1 ?c1 ?k1 ?a2 ?l2 ?c2 ?k2 ?a3 ?l3 ?c3 ?k3 ?a4 ?l4 ?c4 ?k4 ?a5 ?l5 ?c5 ?k5 ?a6 ?l6 ?c6 ?k6 ?a7 ?l7 ?c7 ?k7 ?a8 ?l8 ?c8 ?k8 ?a9 ?l9 ?c9 ?k9 ?a10 ?l10 ?c10 ?k10 ?a11 ?l11 ?c11 ?k11 ?a12 ?l12 ?c12 ?k12 ?a13 ?l13 ?c13 ?k13 ?a14 ?l14 ?c14 ?k14 ?a15 ?l15 ?c15 ?k15 ?a16 ?l16 ?c16 ?k16 ?a17 ?l17 ?c17 ?k17 ?a18 ?l18 ?c18 ?k18 ?a19 ?l19 ?c19 ?k19 ?a20 ?l20 ?c20 ?k20 ?a21 ?l21 ?c21 ?k21 ?a22 ?i22 ?l22 ?c22 ?k22 ?a23 ?i23 ?l23 ?c23 ?k23 ?pgNet ?hdNet ?poNet ?saNet ?mkNet ?kcNet ?nNet_period ?nNet_houses ?nNet_orders ?nNet_followed ?vLONGEST_PERIOD ?vMOST_HOUSES ?vMOST_ORDERS ?vLONGEST_DELAY ?vHIGHEST_LIMIT ?vLONGEST_MULTIPLE ?zlen ?zrange ?zisinstance ?zint ?zbool ?zstr ?ztuple ?zlist ?zall ?zabs ?zenumerate ?zmax ?zmin ?tl ?t11 ?tP ?th ?gEP ?iEP ?tEP ?bEP ?zVE ?gE0 ?iE0 ?tE0 ?gE1 ?iE1 ?tE1 ?gE2 ?iE2 ?tE2 ?gE3 ?iE3 ?tE3 ?gE4 ?iE4 ?tE4 ?gE5 ?iE5 ?tE5 ?gE6 ?iE6 ?tE6 ?gE7 ?iE7 ?tE7 ?gE8 ?iE8 ?tE8 ?gE9 ?iE9 ?tE9 ?gE10 ?iE10 ?tE10 ?gE11 ?iE11 ?tE11 ?gE12 ?iE12 ?tE12 ?gE13 ?iE13 ?tE13 ?gE14 ?iE14 ?tE14 ?heN ?heT ?sE6_0 ?sE6_1 ?sE6_2 ?sE6_3 ?sE6_4 ?sE6_5 ?sE6_6 ?sE6_7 ?sE6_8 ?sE6_9 ?sE6_10 ?sE6_11 ?sE6_12 ?sE6_13 ?sE6_14 ?sE6_P ?bE6 ?vE6 ?kE6 ?h1E6 ?h2E6 ?h3E6 ?h4E6 ?h5E6 ?xE6
    (case aCNet => k_is)
    (case a1 => k_is)
    (case l1 => k_is)
    (case c1 => k_is)
    (case k1 => k_is)
    (case a2 => k_is)
    (case l2 => k_is)
    (case c2 => k_is)
    (case k2 => k_is)
    (case a3 => k_is)
    (case l3 => k_is)
    (case c3 => k_is)
    (case k3 => k_is)
    (case a4 => k_is)
    (case l4 => k_is)
    (case c4 => k_is)
    (case k4 => k_is)
    (case a5 => k_is)
    (case l5 => k_is)
    (case c5 => k_is)
    (case k5 => k_is)
    (case a6 => k_is)
    (case l6 => k_is)
    (case c6 => k_is)
    (case k6 => k_is)
    (case a7 => k_is)
    (case l7 => k_is)
    (case c7 => k_is)
    (case k7 => k_is)
    (case a8 => k_is)
    (case l8 => k_is)
    (case c8 => k_is)
    (case k8 => k_is)
    (case a9 => k_is)
    (case l9 => k_is)
    (case c9 => k_is)
    (case k9 => k_is)
    (case a10 => k_is)
    (case l10 => k_is)
    (case c10 => k_is)
    (case k10 => k_is)
    (case a11 => k_is)
    (case l11 => k_is)
    (case c11 => k_is)
    (case k11 => k_is)
    (case a12 => k_is)
    (case l12 => k_is)
    (case c12 => k_is)
    (case k12 => k_is)
    (case a13 => k_is)
    (case l13 => k_is)
    (case c13 => k_is)
    (case k13 => k_is)
    (case a14 => k_is)
    (case l14 => k_is)
    (case c14 => k_is)
    (case k14 => k_is)
    (case a15 => k_is)
    (case l15 => k_is)
    (case c15 => k_is)
    (case k15 => k_is)
    (case a16 => k_is)
    (case l16 => k_is)
    (case c16 => k_is)
    (case k16 => k_is)
    (case a17 => k_is)
    (case l17 => k_is)
    (case c17 => k_is)
    (case k17 => k_is)
    (case a18 => k_is)
    (case l18 => k_is)
    (case c18 => k_is)
    (case k18 => k_is)
    (case a19 => k_is)
    (case l19 => k_is)
    (case c19 => k_is)
    (case k19 => k_is)
    (case a20 => k_is)
    (case l20 => k_is)
    (case c20 => k_is)
    (case k20 => k_is)
    (case a21 => k_is)
    (case l21 => k_is)
    (case c21 => k_is)
    (case k21 => k_is)
    (case a22 => k_is)
    (case i22 => k_is)
    (case l22 => k_is)
    (case c22 => k_is)
    (case k22 => k_is)
    (case a23 => k_is)
    (case i23 => k_is)
    (case l23 => k_is)
    (case c23 => k_is)
    (case k23 => k_is)
    (case pgNet => k_is)
    (case hdNet => k_is)
    (case poNet => k_is)
    (case saNet => k_is)
    (case mkNet => k_is)
    (case kcNet => k_is)
    (case nNet_period => k_is)
    (case nNet_houses => k_is)
    (case nNet_orders => k_is)
    (case nNet_followed => k_is)
    (case vLONGEST_PERIOD => k_is)
    (case vMOST_HOUSES => k_is)
    (case vMOST_ORDERS => k_is)
    (case vLONGEST_DELAY => k_is)
    (case vHIGHEST_LIMIT => k_is)
    (case vLONGEST_MULTIPLE => k_is)
    (case zlen => k_is)
    (case zrange => k_is)
    (case zisinstance => k_is)
    (case zint => k_is)
    (case zbool => k_is)
    (case zstr => k_is)
    (case ztuple => k_is)
    (case zlist => k_is)
    (case zall => k_is)
    (case zabs => k_is)
    (case zenumerate => k_is)
    (case zmax => k_is)
    (case zmin => k_is)
    (case tl => k_is)
    (case t11 => rfl)
    (case tP => first | rfl | decide +kernel)
    (case th => first | rfl | decide +kernel)
    (case gEP => k_is)
    (case iEP => k_is)
    (case tEP => k_is)
    (case bEP => k_is)
    (case zVE => k_is)
    (case gE0 => k_is)
    (case iE0 => k_is)
    (case tE0 => k_is)
    (case gE1 => k_is)
    (case iE1 => k_is)
    (case tE1 => k_is)
    (case gE2 => k_is)
    (case iE2 => k_is)
    (case tE2 => k_is)
    (case gE3 => k_is)
    (case iE3 => k_is)
    (case tE3 => k_is)
    (case gE4 => k_is)
    (case iE4 => k_is)
    (case tE4 => k_is)
    (case gE5 => k_is)
    (case iE5 => k_is)
    (case tE5 => k_is)
    (case gE6 => k_is)
    (case iE6 => k_is)
    (case tE6 => k_is)
    (case gE7 => k_is)
    (case iE7 => k_is)
    (case tE7 => k_is)
    (case gE8 => k_is)
    (case iE8 => k_is)
    (case tE8 => k_is)
    (case gE9 => k_is)
    (case iE9 => k_is)
    (case tE9 => k_is)
    (case gE10 => k_is)
    (case iE10 => k_is)
    (case tE10 => k_is)
    (case gE11 => k_is)
    (case iE11 => k_is)
    (case tE11 => k_is)
    (case gE12 => k_is)
    (case iE12 => k_is)
    (case tE12 => k_is)
    (case gE13 => k_is)
    (case iE13 => k_is)
    (case tE13 => k_is)
    (case gE14 => k_is)
    (case iE14 => k_is)
    (case tE14 => k_is)
    (case heN => k_is)
    (case heT => k_is)
    (case sE6_0 => k_is)
    (case sE6_1 => k_is)
    (case sE6_2 => k_is)
    (case sE6_3 => k_is)
    (case sE6_4 => k_is)
    (case sE6_5 => k_is)
    (case sE6_6 => k_is)
    (case sE6_7 => k_is)
    (case sE6_8 => k_is)
    (case sE6_9 => k_is)
    (case sE6_10 => k_is)
    (case sE6_11 => k_is)
    (case sE6_12 => k_is)
    (case sE6_13 => k_is)
    (case sE6_14 => k_is)
    (case sE6_P => k_is)
    (case bE6 => k_is)
    (case vE6 => k_is)
    (case kE6 => k_is)
    (case h1E6 => k_is)
    (case h2E6 => k_is)
    (case h3E6 => k_is)
    (case h4E6 => k_is)
    (case h5E6 => k_is)
    (case xE6 => k_exc)
