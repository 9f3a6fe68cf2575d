import PyProof.Rows.All
import Wide.All
import OpenK.AllK
import Wide.FinOn
import HandS.ForMost
import HandS.IsInst
import HandS.Property
import HandS.Codes
import HandS.Style
import HandS.WordsExc
import KE.KEqSeq
import HandS.Deep
import HandS.GenList
import HandS.GenYield
import KE.GoesMore
import PyProof.Draws
import KE.SortData
import KE.KUnpackStar
import HandS.CallLocal
import KE.KAssignIn
import KE.GoesEnumKw
import HandS.ClsMeth
import HandS.FStr
import HandS.StrMore
import KE.DataFind
import HandS.Conv
import HandS.SortInts
import KE.DataMinMax
import HandS.SortKw
import HandS.DictTup
import KE.KExcSuper
import HandS.ExcInit
import HandS.ExcField
import KE.KExcIs
import KE.KDictCopyH
import HandS.TupAny
import HandS.TupMul
import HandS.Wide
import HandS.Star
import HandS.NoneIn
import KE.KRevSl
import HandS.Lambda
import HandS.ExcIs
import HandS.TryOnly
import HandS.EndOwn
import KE.KNestM
import HandS.TupLen
import HandS.TupSets
import PySem.Challenge.RW_chasepost_k20_invalid_bytes
set_option Elab.async false
set_option linter.all false
set_option maxRecDepth 100000
namespace Cp
open PySem L2
def top (i : Nat) : Stmt := PySem.Challenge.pw_chasepost_k20_invalid_bytes.main.body.getD i (.Pass ⟨0, 0, 0, 0⟩)
/-! ### enumerate over a tuple: a walk for a for (the library's own serves lists) -/
section
open PyProof.Rows
open PySem.AutoSeq1 (wpAny_loadPart')
/-- what enumerate makes of a tuple: its iterator, then the enumerate object -/
abbrev enumHeap (g : Heap) (t : Addr) : Heap :=
  (g.push { cls := .type "tuple_iterator", data := .fields #[.ref t, .int 0 0] }).push { cls := .type "enumerate", data := .fields #[.none, .bool false, .ref g.objs.size, rawInt 0, .none, .none] }
theorem enumT_meets (t : Addr) (xs : Array Value) (k : Nat) (dd : Option Addr) (sv : Array (Option Value)) :
    Meets (Builtin.«enumerate.__new__» ⟨[.type "enumerate", .ref t], []⟩) (fun _ R s => s.heap.get? t = some { cls := .type "tuple", dict := dd, data := .seq xs k, slots := sv } ∧
      R (.ok (.ret (.ref (s.heap.objs.size + 1)))) { s with heap := enumHeap s.heap t }) :=
  .of_wp fun P1 w1 A1 R1 s1 h1 => by
    obtain ⟨hp, gg, dr, tks, oo⟩ := s1
    obtain ⟨ht, hR⟩ := h1
    have hz : (hp.push { cls := .type "tuple_iterator", data := .fields #[.ref t, .int 0 0] }).objs.size = hp.objs.size + 1 := Heap.size_push ..
    have subE := sub_enumerate
    have isT : Heap.IsTuple (Shared.heap ⟨hp, gg, dr, tks, oo⟩) t xs := ⟨_, ht, rfl, k, rfl⟩
    replace hR : R1 (.ok (.ret (.ref (hp.push { cls := .type "tuple_iterator", data := .fields #[.ref t, .int 0 0] }).objs.size))) ⟨enumHeap hp t, gg, dr, tks, oo⟩ := by rw [hz]; exact hR
    wp_walk using wpAny_loadPart' ht
    refine wpAny_stack_any fun stk => wpAny_pure ?_
    split
    · rename_i cc _ _ _ _ _
      cases (cc == Value.type "enumerate")
      · wp_walk using wpAny_loadPart' ht, wpAny_pyIter_tuple isT
        exact ⟨_, rfl, hR⟩
      · wp_walk using wpAny_loadPart' ht, wpAny_pyIter_tuple isT
        exact ⟨_, rfl, hR⟩
    · wp_walk using wpAny_loadPart' ht, wpAny_pyIter_tuple isT
      exact ⟨_, rfl, hR⟩
theorem enumT_call {P : Program} {w : World} {A : Around} {E : Value → Shared → Prop} {s : Shared} {t : Addr} {xs : Array Value} {Q : Value → Shared → Prop} (hT : s.heap.IsTuple t xs)
    (h : ∀ h', IsEnum h' (s.heap.objs.size + 1) s.heap.objs.size 0 .none → h'.IsTupleIter s.heap.objs.size t 0 → (∀ b o, s.heap.get? b = some o → h'.get? b = some o) → Q (.ref (s.heap.objs.size + 1)) { s with heap := h' }) :
    wpAny (model P w) A (call (.type "enumerate") [.ref t]) Q E s := by
  obtain ⟨⟨cv, dd, dv, sv⟩, ht, hc, k, hd⟩ := hT
  obtain rfl : cv = .type "tuple" := hc
  obtain rfl : dv = .seq xs k := hd
  refine callType_new F.called_enumerate (by decide) (F.typeCall_enumerate_1 _) (F.newCall_enumerate_1 _) (fun ob => F.args_object_init_2 ob _) F.entry_enumerate_new (enumT_meets t xs k dd sv) ⟨ht, ?_⟩
  have hz : (s.heap.push { cls := .type "tuple_iterator", data := .fields #[.ref t, .int 0 0] }).objs.size = s.heap.objs.size + 1 := Heap.size_push ..
  have q1 : IsEnum (enumHeap s.heap t) (s.heap.objs.size + 1) s.heap.objs.size 0 .none := by
    have q := Heap.get?_push_size (s.heap.push { cls := .type "tuple_iterator", data := .fields #[.ref t, .int 0 0] }) (o := { cls := .type "enumerate", data := .fields #[.none, .bool false, .ref s.heap.objs.size, rawInt 0, .none, .none] }) rfl
    rw [hz] at q
    exact q
  exact ⟨⟨_, q1, rfl⟩, h _ q1 ⟨_, Heap.get?_push_of_some _ (Heap.get?_push_size _ rfl), rfl, rfl⟩ fun b o x => Heap.get?_push_of_some _ (Heap.get?_push_of_some _ x)⟩
/-- the tuple at a as it stands, each item in a new pair with its number -/
def IteT (K : PySem.W.Frag) (a : Addr) : It :=
  ⟨fun i H => ∃ (xs : List V) (x : V), SqT K H a xs ∧ xs[i]? = some x, fun i H v H' => ∃ T x, v = .ref T ∧ H T = none ∧ H' = upd H T (.tup [.int (i : Nat), x]) ∧ ∀ xs, SqT K H a xs → xs[i]? = some x, fun i H => ∃ xs : List V, SqT K H a xs ∧ xs.length ≤ i⟩
theorem enumT_turn {P : Program} {w : World} {K : PySem.W.Frag} {elts : List Expr} {kk : Nat} {tpos : Pos} (a e it : Addr) (hai : a ≠ it) (hae : a ≠ e) :
    Turn P w K (.Tuple elts kk tpos) (IteT K a) [e, it] e (fun i h => (∃ old, IsEnum h e it ((i : Nat) : Int) old) ∧ h.IsTupleIter it a i ∧ e ≠ it) where
  mem := List.mem_cons_self
  obj := fun i h st b hb => by
    obtain ⟨⟨old, q1⟩, ⟨o, q2, _, q3⟩, _⟩ := st
    rcases List.mem_cons.mp hb with z | z
    · rw [z]
      exact ⟨_, q1, fun v q => nomatch q⟩
    · rw [List.mem_singleton.mp z]
      exact ⟨o, q2, fun v q => by rw [q3] at q; cases q⟩
  keep := fun i h h' st k => by
    obtain ⟨⟨old, q1⟩, ⟨o, q2, r⟩, q4⟩ := st
    exact ⟨⟨old, k e List.mem_cons_self _ q1⟩, ⟨o, k it (by simp) o q2, r⟩, q4⟩
  item := by
    rintro X rfl rfl rfl hc i pins s σ H E I hf ⟨⟨old, q1⟩, q2, q3⟩ ⟨xs, x, hq, hx⟩
    obtain ⟨its, rv, p, hz⟩ := I.tuple hq
    obtain ⟨u, hu, ru⟩ := rv.get hx
    have hel : e < s.heap.objs.size := Heap.lt_size q1
    have hil : it < s.heap.objs.size := by
      obtain ⟨_, q, _⟩ := q2
      exact Heap.lt_size q
    have tup : s.heap.IsTuple a its.toArray := p
    have hlt : i < its.toArray.size := by
      have z := (List.getElem?_eq_some_iff.mp hu).1
      simpa using z
    have D : Draws X.prog X.w X.A.in1 it [it, a] its.toArray.size (fun i v => its.toArray[i]? = some v) (fun i h => h.IsTupleIter it a i ∧ h.IsTuple a its.toArray) := Draws.tuple (by exact I.ok.hd hc) it a hai its.toArray
    refine wpAny_pyNext_enum_itemD D q1 ⟨q2, tup⟩ hlt q3 (by simp [q3, hae.symm]) fun y h' tk hP ho st' hT hsz hk => ?_
    obtain rfl : y = u := by
      have z : its.toArray[i]? = some u := by simpa using hu
      exact Option.some.inj (hP.symm.trans z)
    refine ⟨_, rfl, wpAny_letOwnedTupleGo_enum (s := { s with heap := h', toks := tk + 1 }) ho fun h2 q5 sb => ?_⟩
    have hT2 : h2.get? s.heap.objs.size = some { cls := .type "tuple", data := .seq #[.int i tk, y] } := (sb.2 _ (Nat.ne_of_gt hel)).trans hT
    have new : ObjOk X.prog X.w (upd H s.heap.objs.size (.tup [.int (i : Nat), x])) h2 s.heap.objs.size (.tup [.int (i : Nat), x]) :=
      ⟨by show 2 ≤ sizeLine; decide, [.int i tk, y], .cons ⟨_, rfl⟩ (.cons ru .nil), ⟨_, hT2, rfl, _, rfl⟩⟩
    have I2 : Inv X pins σ (upd H s.heap.objs.size (.tup [.int (i : Nat), x])) { s with heap := h2, toks := tk + 1 } :=
      I.turnedNew (ch := [e, it]) (fun b ob hb q => (sb.2 b (fun z => hb (by simp [z]))).trans (hk b ob (fun z => hb (by simp [z])) (fun z => hb (by simp [z])) q)) hf (Nat.le_refl _) new
    refine ⟨.ref s.heap.objs.size, _, I2, rfl, ⟨_, x, rfl, I.hok.fresh (Nat.le_refl _), rfl, fun ys hy => by rw [I.tuple_inj hy hq]; exact hx⟩, ⟨⟨y, ?_⟩, ?_, q3⟩, fun b hb => ?_⟩
    · rw [show ((i + 1 : Nat) : Int) = (i : Int) + 1 by omega]
      exact q5
    · obtain ⟨o, z, r⟩ := st'.1
      exact ⟨o, (sb.2 it (Ne.symm q3)).trans z, r⟩
    · have hb2 : b < s.heap.objs.size := by
        rcases List.mem_cons.mp hb with z | z
        · rw [z]; exact hel
        · rw [List.mem_singleton.mp z]; exact hil
      rw [upd_ne (Nat.ne_of_lt hb2)]
      exact (hf b hb).1
  done := by
    rintro X rfl rfl rfl hc i pins s σ H E I hf ⟨⟨old, q1⟩, q2, q3⟩ ⟨xs, hq, hx⟩
    obtain ⟨its, rv, p, hz⟩ := I.tuple hq
    obtain ⟨f0, f1, f2, f3, f4, f5⟩ := hf it (by simp)
    have hl := rv.length
    have tup : s.heap.IsTuple a its.toArray := p
    have hT : s.TypeIs (.ref e) "enumerate" := ⟨_, q1, rfl⟩
    unfold pyNext
    refine wpAny_bind (wpAny_attempt (wpAny_callSpecial?_slot (name := Str.ofString "__next__") hT F.slot_enumerate_next (wpAny_call_entry F.slot_enumerate_next hT F.entry_enumerate_next ?_ (F.args_enumerate_next_1 _))))
    show wpAny _ _ (field (.ref e) 2 >>= _) _ _ _
    refine wpAny_bind (wpAny_field q1 rfl (x := .ref it) rfl ?_)
    refine wpAny_bind (wpAny_nextOf_tuple_end (by exact I.ok.hd hc) q2 tup (by simp; omega) fun h' x eb hx' => ?_)
    obtain ⟨o, ho, hc'⟩ := hx'
    refine wpAny_bind (wpAny_isInstance (T := "StopIteration") (b := true) ⟨o, ho, hc'⟩ isSubtype_stop ?_)
    exact wpAny_pure ⟨rfl, I.turned (t' := s.toks) (fun b o hb q => eb b o hb q) f0 f1 f3 f4 f5⟩
  self := fun A i s Q E st h => wpAny_pyIter_enum st.1.choose_spec h
def iEnumT (K : PySem.W.Frag) (ta : TA) : TI := fun σ H R => ta σ H fun vs H1 => ∃ a xs, vs = [.ref a] ∧ H1 a = some (.tup xs) ∧ R (IteT K a) H1
theorem pi_enumT {X : Cx} {e : Expr} {ta : TA} {p pos tpos : Pos} {elts : List Expr} {kk : Nat} (hg : Gl X "enumerate") (hm : X.mg "enumerate" = none) (ha : PA X [e] ta) (hs : starEach [e] X.env = [(false, eval e X.env)] := by rfl) :
    PI X (.Tuple elts kk tpos) (.Call (.Name "enumerate" p) [e] [] pos) (iEnumT X.K ta) := by
  refine ⟨fun pins s σ H R I h => ?_⟩
  refine Call_ (ld_blt I hg hm boot_enumerate (PyProof.Rows.callWith_type1 (thn (ha.run pos pins s σ H _ I h) fun us s1 ⟨vs, H1, I1, r1, q1⟩ => ?_) hs rfl))
  obtain ⟨a, xs, rfl, hq, q⟩ := q1
  cases r1 with
  | cons r rr =>
    cases rr
    cases r
    obtain ⟨its, rv, p2, hz⟩ := I1.tuple (.inl (.inl hq))
    have tup : s1.heap.IsTuple a its.toArray := p2
    have hal : a < s1.heap.objs.size := p2.lt
    refine enumT_call tup fun h' q1 q2 hk => wpAny_pyIter_enum q1 ?_
    have I2 : Inv X pins σ H1 { s1 with heap := h' } := I1.kept (t' := s1.toks) hk
    refine ⟨s1.heap.objs.size + 1, [s1.heap.objs.size + 1, s1.heap.objs.size], _, _, H1, rfl, I2, enumT_turn a (s1.heap.objs.size + 1) s1.heap.objs.size (Nat.ne_of_lt hal) (Nat.ne_of_lt (Nat.lt_succ_of_lt hal)), ⟨⟨.none, q1⟩, q2, Nat.succ_ne_self _⟩, fun b hb => ?_, q⟩
    have hle : s1.heap.objs.size ≤ b := by
      rcases List.mem_cons.mp hb with z | z
      · rw [z]; exact Nat.le_add_right _ _
      · rw [List.mem_singleton.mp z]; exact Nat.le_refl _
    exact I1.fpOk hle (I1.hok.fresh hle)
end
/-! ### min and sorted of data, nested to any depth -/
section
open PySem.Spec PyProof.Rows
open PySem.W (alike alikeAll dataLt minD AlikeAll AllAlike Sortable EachIs sorted_data min_list_data readsAll_atA alike_unique dataLe)
/-- min(xs), xs a list of data that are alike -/
def rMinD (K : PySem.W.Frag) : List V → Hp → VK → Prop := fun vs H Q => ∃ (a : Addr) (xs : List V) (d : PyData) (ds : List PyData), vs = [V.ref a] ∧ SqL K H a xs ∧ DpAll K H xs (d :: ds) ∧ AlikeAll (d :: ds) ∧ PyData.depthAll (d :: ds) ≤ 60 ∧
  ∀ (i : Nat) x, xs[i]? = some x → (d :: ds)[i]? = some (minD d ds) → Q x H
theorem minD_mem : ∀ (ds : List PyData) (d : PyData), minD d ds ∈ d :: ds
  | [], d => List.mem_cons_self
  | e :: r, d => by
    show minD (if dataLt e d = true then e else d) r ∈ _
    have h := minD_mem r (if dataLt e d = true then e else d)
    rcases List.mem_cons.mp h with z | z
    · rw [z]
      split <;> simp
    · exact List.mem_cons_of_mem _ (List.mem_cons_of_mem _ z)
theorem cr_minD {X : Cx} (hc : X.calm = true) (hu : X.A.units + 65 < cLine) : CallR X (.builtin "min") (rMinD X.K) := by
  intro pins s σ H vs us Q I r h
  obtain ⟨a, xs, d, ds, rfl, hs, hd, ha, hdp, q⟩ := h
  obtain ⟨its, rv, hl, _⟩ := I.list hs
  rw [Vals.ref1 r]
  obtain ⟨as, hr⟩ := Dp.readsAll I (d :: ds) xs its hd rv
  refine min_list_data (I.ok.hd hc) hl.isList hr ha (by omega) fun i v h' tk bs hi rd hk => ?_
  have hi2 : its[i]? = some v := by simpa using hi
  have hil : i < xs.length := by
    rw [rv.length]
    exact (List.getElem?_eq_some_iff.mp hi2).1
  obtain ⟨u, hu2, ru⟩ := rv.get (List.getElem?_eq_getElem hil)
  obtain rfl : u = v := Option.some.inj (hu2.symm.trans hi2)
  obtain ⟨cs, rc, lt, mem, _⟩ := readsAll_atA hr i u hi
  have rd' := Reads.keeps hk rc
  have e : (d :: ds).getD i .none = minD d ds := alike_unique _ _ _ _ _ (ha.1 _ mem _ (minD_mem ds d)) rd' rd
  refine ⟨_, H, I.kept (t' := tk) hk, ru, q i _ (List.getElem?_eq_getElem hil) ?_⟩
  rw [← e, List.getD_eq_getElem?_getD, List.getElem?_eq_getElem lt]
  rfl
/-- sorted(xs), xs a list of data that are alike: a new list; R: what is known of each item -/
def rSortedD {β : Type} (enc : β → PyData) (K : PySem.W.Frag) : List V → Hp → VK → Prop := fun vs H Q => ∃ (a : Addr) (xs : List V) (bs : List β) (R : V → β → Prop), vs = [V.ref a] ∧ SqL K H a xs ∧ Paired R xs bs ∧ DpAll K H xs (bs.map enc) ∧ AllAlike (bs.map enc) ∧ Sortable (bs.map enc) ∧ (∀ b ∈ bs, (enc b).depth ≤ 60) ∧
  ∀ ys p, Paired R ys (bs.mergeSort (dataLe false enc)) → H p = none → Q (.ref p) (L2.upd H p (.lst ys))
theorem each_pairs {β : Type} {R : Value → β → Prop} {F : V → β → Prop} (h : ∀ v b, R v b → ∃ x, RelV x v ∧ F x b) : ∀ {out : List Value} {bs : List β}, EachIs R out bs → ∃ ys, Vals ys out ∧ Paired F ys bs
  | _, _, .nil => ⟨[], .nil, .nil⟩
  | _, _, .cons r t => by
    obtain ⟨ys, h1, h2⟩ := each_pairs h t
    obtain ⟨x, h3, h4⟩ := h _ _ r
    exact ⟨x :: ys, .cons h3 h1, .cons h4 h2⟩
theorem each_of {β : Type} {K : PySem.W.Frag} {H : Hp} {enc : β → PyData} {R : V → β → Prop} {R' : Value → β → Prop} : ∀ {xs : List V} {us : List Value} {bs : List β}, Vals xs us → Paired R xs bs → DpAll K H xs (bs.map enc) → (∀ x u b, RelV x u → R x b → Dp K H x (enc b) → R' u b) → EachIs R' us bs
  | _, _, [], rv, hr, hd, _ => by
    cases hd
    cases rv
    exact .nil
  | _, _, b :: bs, rv, hr, hd, h => by
    cases hd with
    | cons q t =>
      cases rv with
      | cons r rt =>
        cases hr with
        | cons p pt => exact .cons (h _ _ _ r p q) (each_of rt pt t h)
theorem cr_sortedD {β : Type} {X : Cx} (enc : β → PyData) (hu : X.A.units + 65 < cLine) : CallR X (.builtin "sorted") (rSortedD enc X.K) := by
  intro pins s σ H vs us Q I r h
  obtain ⟨a, xs, bs, R, rfl, hs, hR, hd, hal, hk, hdp, q⟩ := h
  obtain ⟨its, rv, hl, hz⟩ := I.list hs
  rw [Vals.ref1 r]
  have e1 : EachIs (fun v b => ∃ x, RelV x v ∧ R x b) its bs := each_of rv hR hd fun x u b hr hx _ => ⟨x, hr, hx⟩
  have e2 : EachIs (fun v b => ∃ as, Reads s.heap v (enc b) as) its bs := each_of rv hR hd fun x u b hr _ hd => Dp.reads I _ _ _ hd hr
  have hl2 := e1.length
  refine sorted_data hl.isList e1 e2 hal hk (by rw [← hl2, ← rv.length]; exact hz) (fun b hb => by have := hdp b hb; omega) fun out ho eo => ?_
  obtain ⟨ys, h1, h2⟩ := each_pairs (F := R) (fun v b ⟨x, a1, a2⟩ => ⟨x, a1, a2⟩) eo
  obtain ⟨ep, he'⟩ := PyProof.Rows.sortedAll_at s.heap its out.toArray
  have hlen : ys.length ≤ sizeLine := by
    rw [h1.length, ho, ← hl2, ← rv.length]
    exact hz
  exact ⟨.ref _, L2.upd H (s.heap.objs.size + 1) (.lst ys), I.laid (t' := s.toks) (fun _ _ => PyProof.Rows.sortedAll_old) (Nat.le_succ _) ⟨hlen, out, ep, h1, he'⟩, rfl, q ys _ h2 (I.hok.fresh (Nat.le_succ _))⟩
end
/-! ### xs.count(x), x data of any depth -/
section
open PySem.Spec PyProof.Rows
def rCntD (K : PySem.W.Frag) : V → List V → Hp → VK → Prop := fun x xs H Q => ∃ (a : Addr) (ys : List V) (y : V) (d : PyData) (ds : List PyData), x = V.ref a ∧ xs = [y] ∧ SqL K H a ys ∧ DpAll K H ys ds ∧ Dp K H y d ∧ PyData.plainAll ds = true ∧ d.plain = true ∧ d.depth ≤ 60 ∧ Q (.int ((ds.countP fun z => PyData.eqv z d : Nat) : Int)) H
theorem mt_countD {X : Cx} (hu : X.A.units + 65 < cLine) : MtR X "list.count" (rCntD X.K) := by
  intro pins s σ H x xs v us Q I rx rxs h
  obtain ⟨a, ys, y, d, ds, rfl, rfl, hl, hds, hd, p1, p2, hdp, q⟩ := h
  cases rx
  cases rxs with
  | cons ry rt =>
    rename_i uy ut
    cases rt
    obtain ⟨bs, r1⟩ := Dp.reads I d y uy hd ry
    obtain ⟨its, rv, hL, _⟩ := I.list hl
    obtain ⟨as, hr⟩ := Dp.readsAll I ds ys its hds rv
    refine PySem.SeqAt.count_list_data hL.isList hr r1 p1 p2 (by omega) ⟨.int _, H, I.tok _, ⟨_, rfl⟩, q⟩
end
/-! ### max(xs, default=d), xs a list of ints -/
section
open PySem.Spec PyProof.Rows
open PySem.W (alike alikeAll dataLt maxD AlikeAll max_list_default)
def rMaxDef (K : PySem.W.Frag) : List V → List V → Hp → VK → Prop := fun vs zs H Q => ∃ (a : Addr) (ns : List Int) (d : V), vs = [V.ref a] ∧ zs = [d] ∧ SqL K H a (ns.map V.int) ∧ (ns = [] → Q d H) ∧ ∀ m, m ∈ ns → (∀ y, y ∈ ns → y ≤ m) → Q (.int m) H
def maxI (x : Int) (xs : List Int) : Int := xs.foldl (fun a y => if a < y then y else a) x
theorem maxI_spec : ∀ (xs : List Int) (x : Int), maxI x xs ∈ x :: xs ∧ ∀ y ∈ x :: xs, y ≤ maxI x xs
  | [], x => ⟨List.mem_cons_self, fun y hy => by rw [List.mem_singleton.mp hy]; exact Int.le_refl _⟩
  | z :: r, x => by
    obtain ⟨h1, h2⟩ := maxI_spec r (if x < z then z else x)
    have e : maxI x (z :: r) = maxI (if x < z then z else x) r := rfl
    rw [e]
    have h3 := h2 _ List.mem_cons_self
    refine ⟨?_, fun y hy => ?_⟩
    · rcases List.mem_cons.mp h1 with q | q
      · rw [q]
        split <;> simp
      · exact List.mem_cons_of_mem _ (List.mem_cons_of_mem _ q)
    · rcases List.mem_cons.mp hy with q | q
      · rw [q]
        split at h3 <;> rename_i c
        · rw [if_pos c]; omega
        · rw [if_neg c]; omega
      · rcases List.mem_cons.mp q with q | q
        · rw [q]
          split at h3 <;> rename_i c
          · rw [if_pos c]; omega
          · rw [if_neg c]; omega
        · exact h2 y (List.mem_cons_of_mem _ q)
theorem maxD_int : ∀ (xs : List Int) (x : Int), maxD (.int x) (xs.map PyData.int) = .int (maxI x xs)
  | [], x => rfl
  | y :: ys, x => by
    show maxD (if dataLt (.int x) (.int y) = true then .int y else .int x) (ys.map PyData.int) = .int (maxI (if x < y then y else x) ys)
    rw [PySem.W.dataLt_int]
    by_cases c : x < y
    · rw [if_pos (decide_eq_true c), if_pos c]
      exact maxD_int ys y
    · rw [if_neg (by rw [decide_eq_false c]; exact Bool.false_ne_true), if_neg c]
      exact maxD_int ys x
theorem ints_dp {K : PySem.W.Frag} {H : Hp} : ∀ ns : List Int, DpAll K H (ns.map V.int) (ns.map PyData.int)
  | [] => .nil
  | n :: ns => .cons (.int _) (ints_dp ns)
theorem ints_alike (ns : List Int) : AlikeAll (ns.map PyData.int) := by
  refine ⟨fun x hx y hy => ?_, fun x hx => ?_⟩
  · obtain ⟨s, _, rfl⟩ := List.mem_map.mp hx
    obtain ⟨t, _, rfl⟩ := List.mem_map.mp hy
    simp [alike]
  · obtain ⟨s, _, rfl⟩ := List.mem_map.mp hx
    intro e
    cases e
theorem ints_depth : ∀ ns : List Int, PyData.depthAll (ns.map PyData.int) = 0
  | [] => by simp [PyData.depthAll]
  | n :: ns => by simp [PyData.depthAll, PyData.depth, ints_depth ns]
theorem cr_maxDef {X : Cx} (hc : X.calm = true) (hu : X.A.units + 65 < cLine) : CallRK X (.builtin "max") [Str.ofString "default"] (rMaxDef X.K) := by
  intro pins s σ H vs zs us ws Q I r rz h
  obtain ⟨a, ns, d, rfl, rfl, hs, q0, q⟩ := h
  obtain ⟨its, rv, hl, _⟩ := I.list hs
  rw [Vals.ref1 r]
  cases rz with
  | cons rd rt =>
    cases rt
    rename_i dv
    obtain ⟨as, hr⟩ := Dp.readsAll I (ns.map PyData.int) (ns.map V.int) its (ints_dp ns) rv
    refine max_list_default (I.ok.hd hc) hl.isList hr (ints_alike ns) (by rw [ints_depth]; omega) (fun e h' tk hk => ?_) fun y ys i v h' tk bs e hi rd' hk => ?_
    · exact ⟨d, H, I.kept (t' := tk) hk, rd, q0 (List.map_eq_nil_iff.mp e)⟩
    · cases ns with
      | nil => cases e
      | cons n ns =>
        rw [List.map_cons] at e
        injection e with e1 e2
        subst e1
        subst e2
        rw [maxD_int] at rd'
        obtain ⟨m1, m2⟩ := maxI_spec ns n
        have hi2 : its[i]? = some v := by simpa using hi
        have hil : i < (List.map V.int (n :: ns)).length := by
          rw [rv.length]
          exact (List.getElem?_eq_some_iff.mp hi2).1
        obtain ⟨u, hu2, ru⟩ := rv.get (List.getElem?_eq_getElem hil)
        obtain rfl : u = v := Option.some.inj (hu2.symm.trans hi2)
        cases rd'
        exact ⟨.int _, H, I.kept (t' := tk) hk, ⟨_, rfl⟩, q _ m1 m2⟩
end
/-! ### d.values(), list(d.values()) of a dict whose keys are tuples -/
section
open PySem.Spec PyProof.Rows
/-- the view d.values() at p -/
def valsO (p d : Addr) : HO := .ext fun h => h.IsValuesView p d
theorem valsO_ok {P : Program} {w : World} {H : Hp} {h : Heap} {p d : Addr} (e : h.get? p = some { cls := .type "dict_values", data := .fields #[.ref d] }) : ObjOk P w H h p (valsO p d) :=
  ⟨⟨_, e, rfl, rfl⟩, ⟨_, e⟩, fun h1 h2 x k => let ⟨o, ho, r⟩ := x; ⟨o, k o ho, r⟩⟩
variable {X : Cx}
def rValuesT : V → List V → Hp → VK → Prop := fun x xs H Q => ∃ (a : Addr) (kvs : List (List L2.Key × V)), x = .ref a ∧ xs = [] ∧ H a = some (.dT kvs) ∧ ∀ p, H p = none → Q (.ref p) (L2.upd H p (valsO p a))
theorem mt_valuesT : MtR X "dict.values" rValuesT := by
  intro pins s σ H x xs v us Q I rx rxs h
  obtain ⟨a, kvs, rfl, rfl, ha, q⟩ := h
  cases rx
  cases rxs
  obtain ⟨z, hd, xs', rel, o, es, ep, ho, hx, hdat, _⟩ := dt_of I.hok ha
  have raw : s.heap.DictRaw a es ep := ⟨o, ho, hx, hdat⟩
  refine call_meetsIn PySem.F.slot_dict_values raw.typeIs PySem.F.entry_dict_values (PySem.F.args_dict_values_1 _) (PySem.meets_dict_values_raw a hd) ⟨⟨es, ep, raw⟩, ?_⟩
  have hf : H s.heap.objs.size = none := I.hok.fresh (Nat.le_refl _)
  exact ⟨.ref s.heap.objs.size, L2.upd H s.heap.objs.size (valsO s.heap.objs.size a), I.laid (t' := s.toks) (fun b u e => Heap.get?_push_of_some _ e) (Nat.le_refl _) (valsO_ok (Heap.get?_push_size _ rfl)), rfl, q _ hf⟩
theorem kt_vals {H : Hp} : ∀ {kvs : List (List L2.Key × V)} {xs : List (List L2.Key × Addr × Value)}, KT H kvs xs → Vals (kvs.map (·.2)) (xs.map fun x => x.2.2)
  | _, _, .nil => .nil
  | _, _, .cons h t => .cons h.2.2 (kt_vals t)
theorem call_list_valuesT (hc : X.calm = true) : CallR X (.type "list") (fun xs H Q => ∃ (v d : Addr) (kvs : List (List L2.Key × V)), xs = [V.ref v] ∧ H v = some (valsO v d) ∧ H d = some (.dT kvs) ∧ ∀ p, H p = none → Q (.ref p) (L2.upd H p (.lst (kvs.map (·.2))))) := by
  intro pins s σ H xs us Q I r h
  obtain ⟨v, d, kvs, rfl, hv, hd, q⟩ := h
  obtain ⟨u, rfl, rx⟩ := r.one
  cases rx
  obtain ⟨z, hs, ks, pr, o, es, ep, ho, hx, hdt, he, hn⟩ := dt_of I.hok hd
  have hvv : s.heap.IsValuesView v d := (show ObjOk X.prog X.w H s.heap v (valsO v d) from I.hok v _ hv).1
  have raw : s.heap.DictRaw d es ep := ⟨o, ho, hx, hdt⟩
  have l1 : es.size = ks.length := size_of_entries he
  have l2 : kvs.length = ks.length := Paired.length pr
  refine PySem.W.kdl_call PySem.KdlSrc.rawValues (I.ok.hd hc) ⟨hvv, raw⟩ (by omega) fun h' tk acc' c' kp e it => ?_
  have ea : acc'.toList = ks.map fun x => x.2.2 := by
    have hl : acc'.toList.length = ks.length := by rw [Array.length_toList, it.1]; exact l1
    apply List.ext_getElem?
    intro j
    rw [List.getElem?_map]
    cases hj : acc'.toList[j]? with
    | none =>
      have h1 := List.getElem?_eq_none_iff.mp hj
      rw [List.getElem?_eq_none (by omega)]
      all_goals rfl
    | some v =>
      obtain ⟨hi, hv⟩ := it.2 j v (by rw [← Array.getElem?_toList]; exact hj)
      have qe := entry_at he j
      rw [Array.getElem?_eq_getElem hi] at qe
      cases hb : ks[j]? with
      | none =>
        rw [hb] at qe
        exact nomatch (show some es[j] = none from qe)
      | some b =>
        rw [hb] at qe
        have e2 : es[j] = entryOfKey (tupleKind (mixKind X.prog X.w)) b := Option.some.inj qe
        rw [hv, e2]
        all_goals rfl
  have rv : Vals (kvs.map (·.2)) acc'.toList := by
    rw [ea]
    exact kt_vals pr
  have hz : (kvs.map (·.2)).length ≤ sizeLine := by rw [List.length_map]; omega
  refine ⟨.ref s.heap.objs.size, _, I.laid (t' := tk) (o := .lst (kvs.map (·.2))) kp (Nat.le_refl _) ?_, rfl, q _ (I.hok.fresh (Nat.le_refl _))⟩
  exact ⟨hz, acc'.toList, c', rv, by rw [Array.toArray_toList]; exact e⟩
end
/-! ### xs * k of a tuple, k 0 or 1 -/
section
open PySem.Spec PyProof.Rows
theorem tuple_mul1 (l : Addr) (items : Array Value) (n : Nat) (dd : Option Addr) (sl : Array (Option Value)) (u : Tok) :
    Meets (Builtin.«tuple.__mul__» ⟨[.ref l, .int 1 u], []⟩) (fun _ R s => s.heap.get? l = some { cls := .type "tuple", dict := dd, data := .seq items n, slots := sl } ∧ R (.ok (.ret (.ref l))) s) :=
  .of_wp fun prog w A R s h => by
    obtain ⟨hp, g, d, tk, os⟩ := s
    obtain ⟨hl, h⟩ := h
    have f1 := AutoSeq1.idx_int
    have c1 : (items.isEmpty || (1 : Int) == 1) = true := by rw [Bool.or_eq_true]; exact .inr rfl
    wp_walk using wpAny_loadPart' hl
    repeat (first
      | (refine wpAny_ite_false (decide_eq_false (by decide)) ?_; wp_walk using wpAny_loadPart' hl)
      | (refine wpAny_ite_true (decide_eq_true c1) ?_; wp_walk using wpAny_loadPart' hl))
    exact ⟨_, rfl, h⟩
theorem tuple_mul0 (l : Addr) (items : Array Value) (n : Nat) (dd : Option Addr) (sl : Array (Option Value)) (u : Tok) (hi : items.isEmpty = false) :
    Meets (Builtin.«tuple.__mul__» ⟨[.ref l, .int 0 u], []⟩) (fun _ R s => s.heap.get? l = some { cls := .type "tuple", dict := dd, data := .seq items n, slots := sl } ∧ R (.ok (.ret (.ref s.heap.objs.size))) { s with heap := s.heap.push { cls := Value.type "tuple", data := Data.seq #[] }, toks := s.toks }) :=
  .of_wp fun prog w A R s h => by
    obtain ⟨hp, g, d, tk, os⟩ := s
    obtain ⟨hl, h⟩ := h
    have f1 := AutoSeq1.idx_int
    have c1 : ¬ (items.isEmpty || (0 : Int) == 1) = true := by rw [hi]; decide
    have c2 : (decide ((0 : Int) ≤ 0) || items.isEmpty) = true := by rw [hi]; decide
    wp_walk using wpAny_loadPart' hl
    repeat (first
      | (refine wpAny_ite_false (decide_eq_false (by decide)) ?_; wp_walk using wpAny_loadPart' hl)
      | (refine wpAny_ite_false (decide_eq_false c1) ?_; wp_walk using wpAny_loadPart' hl)
      | (refine wpAny_ite_true (decide_eq_true c2) ?_; wp_walk using wpAny_loadPart' hl))
    exact ⟨_, rfl, h⟩
def rRep01 (K : PySem.W.Frag) : R2 := fun x y H Q => ∃ l k xs, x = .ref l ∧ y = .int k ∧ SqT K H l xs ∧ xs ≠ [] ∧ (k = 0 ∨ k = 1) ∧ (k = 1 → Q (.ref l) H) ∧ (k = 0 → ∀ p, H p = none → Q (.ref p) (L2.upd H p (.tup [])))
theorem op_rep01 {X : Cx} : OpR X (binaryOp .Mult) (rRep01 X.K) := by
  intro pins s σ H x y v u Q I rx ry h
  obtain ⟨l, k, xs, rfl, rfl, hT, hne, hk, q1, q0⟩ := h
  cases rx
  obtain ⟨t, rfl⟩ := ry
  obtain ⟨its, r, ⟨⟨cls, dd, data, sl⟩, ho, hc, n, hd⟩, hs⟩ := I.tuple hT
  simp only at hc hd
  subst hc hd
  have hn : its ≠ [] := fun e => hne (by
    have := r.length
    rw [e] at this
    exact List.eq_nil_of_length_eq_zero this)
  have hi : its.toArray.isEmpty = false := by
    cases its with
    | nil => exact absurd rfl hn
    | cons a b => rfl
  rcases hk with rfl | rfl
  · refine wpAny_binaryOp_repeat_ref (T := "tuple") (U := "int") (by decide) ⟨_, ho, rfl⟩ (fun s' => typeIs_int s' 0 t) noFill_tuple_mul PySem.F.fills_int_mul PySem.F.slot_int_rmul repeat_tuple PySem.F.slot_int_index.lookup
      (call_meets PySem.F.slot_int_rmul (typeIs_int s 0 t) PySem.F.entry_int_rmul (PySem.F.args_int_rmul_2 _ _) (int_rmul_tuple 0 t l its.toArray n dd sl)
        ⟨ho, rfl, ⟨_, ho, rfl⟩, call_meets PySem.F.slot_tuple_mul ⟨_, ho, rfl⟩ PySem.F.entry_tuple_mul (PySem.F.args_tuple_mul_2 _ _) (tuple_mul0 l its.toArray n dd sl t hi) ⟨ho, ?_⟩⟩)
    refine ⟨.ref s.heap.objs.size, _, I.laid (t' := s.toks) (o := .tup []) (fun b ob q => Heap.get?_push_of_some _ q) (Nat.le_refl _) ?_, rfl, q0 rfl _ (I.hok.fresh (Nat.le_refl _))⟩
    exact ⟨Nat.zero_le _, [], .nil, IsTup.new _ _⟩
  · refine wpAny_binaryOp_repeat_ref (T := "tuple") (U := "int") (by decide) ⟨_, ho, rfl⟩ (fun s' => typeIs_int s' 1 t) noFill_tuple_mul PySem.F.fills_int_mul PySem.F.slot_int_rmul repeat_tuple PySem.F.slot_int_index.lookup
      (call_meets PySem.F.slot_int_rmul (typeIs_int s 1 t) PySem.F.entry_int_rmul (PySem.F.args_int_rmul_2 _ _) (int_rmul_tuple 1 t l its.toArray n dd sl)
        ⟨ho, rfl, ⟨_, ho, rfl⟩, call_meets PySem.F.slot_tuple_mul ⟨_, ho, rfl⟩ PySem.F.entry_tuple_mul (PySem.F.args_tuple_mul_2 _ _) (tuple_mul1 l its.toArray n dd sl t) ⟨ho, ?_⟩⟩)
    exact ⟨.ref l, H, I, rfl, q1 rfl⟩
end
/-! ### a comprehension over two ranges -/
theorem lc2_rng {lo : Int} {n : Nat} {g : TG} {tt tt1 : TT} {wi1 : TI} {g1 : TG} {te : TE} {vs vs1 : List Nat} {σ : L2.St} {H1 : Hp} {D : Addr} {Qd : Hp → Prop} (Pv : Nat → Hp → Prop) (h0 : Pv 0 (upd H1 D (.lst [])))
    (hs : ∀ i H, i < n → Pv i H → g (.int (lo + i)) (wipe σ vs) H fun σ2 H2 => wipe σ2 vs = wipe σ vs ∧ tt σ2 H2 fun b H3 =>
      if b = true then wi1 σ2 H3 fun J1 H4 => ∃ W1 : Nat → Nat → Hp → Prop, (∃ m, W1 0 m H4) ∧ ∀ j k H, W1 j k H →
          (J1.stop j H ∧ Pv (i + 1) H) ∨ (J1.go j H ∧ ∃ Nx1 : Hp → Prop, (∀ H', Nx1 H' → ∃ k', k' < k ∧ W1 (j + 1) k' H') ∧ ∀ x H', J1.yld j H x H' → g1 x (wipe σ2 vs1) H' fun σ3 H5 => wipe σ3 vs1 = wipe σ2 vs1 ∧ tt1 σ3 H5 fun b H6 =>
            if b = true then te σ3 H6 fun y H7 => ∃ acc, H7 D = some (.lst acc) ∧ acc.length < sizeLine ∧ Nx1 (upd H7 D (.lst (acc ++ [y]))) else Nx1 H6)
      else Pv (i + 1) H3) (hd : ∀ H, Pv n H → Qd H) :
    ∃ W : Nat → Nat → Hp → Prop, (∃ m, W 0 m (upd H1 D (.lst []))) ∧ ∀ i m H, W i m H →
      ((Itr lo n).stop i H ∧ Qd H) ∨ ((Itr lo n).go i H ∧ ∃ Nx : Hp → Prop, (∀ H', Nx H' → ∃ m', m' < m ∧ W (i + 1) m' H') ∧ ∀ x H', (Itr lo n).yld i H x H' → g x (wipe σ vs) H' fun σ2 H2 => wipe σ2 vs = wipe σ vs ∧ tt σ2 H2 fun b H3 =>
        if b = true then wi1 σ2 H3 fun J1 H4 => ∃ W1 : Nat → Nat → Hp → Prop, (∃ m, W1 0 m H4) ∧ ∀ j k H, W1 j k H →
          (J1.stop j H ∧ Nx H) ∨ (J1.go j H ∧ ∃ Nx1 : Hp → Prop, (∀ H', Nx1 H' → ∃ k', k' < k ∧ W1 (j + 1) k' H') ∧ ∀ x H', J1.yld j H x H' → g1 x (wipe σ2 vs1) H' fun σ3 H5 => wipe σ3 vs1 = wipe σ2 vs1 ∧ tt1 σ3 H5 fun b H6 =>
            if b = true then te σ3 H6 fun y H7 => ∃ acc, H7 D = some (.lst acc) ∧ acc.length < sizeLine ∧ Nx1 (upd H7 D (.lst (acc ++ [y]))) else Nx1 H6)
        else Nx H3) := by
  refine ⟨fun i m H => m = n - i ∧ i ≤ n ∧ Pv i H, ⟨n, by simp, Nat.zero_le _, h0⟩, ?_⟩
  rintro i m H ⟨rfl, hi, p⟩
  by_cases hlt : i < n
  · refine .inr ⟨hlt, Pv (i + 1), fun H' p' => ⟨n - (i + 1), by omega, rfl, hlt, p'⟩, fun x H' y => ?_⟩
    obtain ⟨e, y⟩ := y
    subst e y
    exact hs i _ hlt p
  · have e : i = n := by omega
    subst e
    exact .inl ⟨Nat.le_refl _, hd H p⟩
theorem in_rng {lo : Int} {n : Nat} {g1 : TG} {tt1 : TT} {te : TE} {vs1 : List Nat} {σ2 : L2.St} {H4 : Hp} {D : Addr} {Nx : Hp → Prop} (Pv : Nat → Hp → Prop) (h0 : Pv 0 H4)
    (hs : ∀ i H, i < n → Pv i H → g1 (.int (lo + i)) (wipe σ2 vs1) H fun σ3 H5 => wipe σ3 vs1 = wipe σ2 vs1 ∧ tt1 σ3 H5 fun b H6 =>
      if b = true then te σ3 H6 fun y H7 => ∃ acc, H7 D = some (.lst acc) ∧ acc.length < sizeLine ∧ Pv (i + 1) (upd H7 D (.lst (acc ++ [y]))) else Pv (i + 1) H6) (hd : ∀ H, Pv n H → Nx H) :
    ∃ W1 : Nat → Nat → Hp → Prop, (∃ m, W1 0 m H4) ∧ ∀ j k H, W1 j k H →
      ((Itr lo n).stop j H ∧ Nx H) ∨ ((Itr lo n).go j H ∧ ∃ Nx1 : Hp → Prop, (∀ H', Nx1 H' → ∃ k', k' < k ∧ W1 (j + 1) k' H') ∧ ∀ x H', (Itr lo n).yld j H x H' → g1 x (wipe σ2 vs1) H' fun σ3 H5 => wipe σ3 vs1 = wipe σ2 vs1 ∧ tt1 σ3 H5 fun b H6 =>
        if b = true then te σ3 H6 fun y H7 => ∃ acc, H7 D = some (.lst acc) ∧ acc.length < sizeLine ∧ Nx1 (upd H7 D (.lst (acc ++ [y]))) else Nx1 H6) := by
  refine ⟨fun i m H => m = n - i ∧ i ≤ n ∧ Pv i H, ⟨n, by simp, Nat.zero_le _, h0⟩, ?_⟩
  rintro i m H ⟨rfl, hi, p⟩
  by_cases hlt : i < n
  · refine .inr ⟨hlt, Pv (i + 1), fun H' p' => ⟨n - (i + 1), by omega, rfl, hlt, p'⟩, fun x H' y => ?_⟩
    obtain ⟨e, y⟩ := y
    subst e y
    exact hs i _ hlt p
  · have e : i = n := by omega
    subst e
    exact .inl ⟨Nat.le_refl _, hd H p⟩
/-! ### plain mathematics: orders, the first valid one, ways -/
structure Od where
  s : Nat
  t : Nat
  f : Nat
  n : Nat
  e : Nat
def Od.vs (o : Od) : List V := [.int o.s, .int o.t, .int o.f, .int o.n, .int o.e]
structure OdOk (p h : Nat) (o : Od) : Prop where
  s : o.s < h
  t : o.t < h
  st : o.s ≠ o.t
  f : o.f < p
  n1 : 1 ≤ o.n
  n : o.n ≤ p
  e1 : 1 ≤ o.e
  e : o.e ≤ 9
/-- the order o is valid on the day d of a net of period p -/
def onDay (p : Nat) (o : Od) (d : Int) : Bool := decide ((d - (o.f : Int)) % (p : Int) < (o.n : Int))
def hit (p : Nat) (s : Nat) (d : Int) (o : Od) : Bool := decide (o.s = s) && onDay p o d
/-- the number of the order that is followed -/
def idx (p : Nat) (os : List Od) (s : Nat) (d : Int) : Option Nat := os.findIdx? (hit p s d)
def optV : Option Nat → V
  | none => .non
  | some k => .int k
theorem optV_flat (o : Option Nat) : flatV (optV o) = true := by cases o <;> rfl
theorem idx_mod (p : Nat) (os : List Od) (s : Nat) (d : Int) : idx p os s (d % (p : Int)) = idx p os s d := by
  unfold idx
  congr 1
  funext o
  unfold hit onDay
  rw [Int.emod_sub_emod]
theorem idx_nat (p : Nat) (os : List Od) (s d : Nat) : idx p os s ((d % p : Nat) : Int) = idx p os s (d : Int) := by
  rw [Int.natCast_emod]
  exact idx_mod p os s d
theorem idx_later (p : Nat) (os : List Od) (s d k : Nat) : idx p os s ((d + p * k : Nat) : Int) = idx p os s (d : Int) := by
  rw [← idx_nat p os s (d + p * k), Nat.add_mul_mod_self_left, idx_nat]
theorem idx_lt {p : Nat} {os : List Od} {s k : Nat} {d : Int} (h : idx p os s d = some k) : k < os.length := by
  unfold idx at h
  exact (List.findIdx?_eq_some_iff_getElem.mp h).1
theorem idx_take_succ {p : Nat} {os : List Od} {s k : Nat} {d : Int} {o : Od} (h : os[k]? = some o) :
    idx p (os.take (k + 1)) s d = (idx p (os.take k) s d).or (if hit p s d o = true then some k else none) := by
  obtain ⟨hk, ho⟩ := List.getElem?_eq_some_iff.mp h
  unfold idx
  rw [List.take_add_one, h, Option.toList_some, List.findIdx?_append, List.findIdx?_singleton]
  have hl : (os.take k).length = k := by rw [List.length_take]; omega
  rw [hl]
  cases hh : hit p s d o with
  | true => simp
  | false => simp
/-- which days of the period are among the first l days of an order -/
def among (p f l d : Nat) : Prop := ∃ j, j < l ∧ (f + j) % p = d
theorem among_zero (p f d : Nat) : ¬ among p f 0 d := fun ⟨_, h, _⟩ => absurd h (Nat.not_lt_zero _)
theorem among_succ {p f l d : Nat} : among p f (l + 1) d ↔ among p f l d ∨ (f + l) % p = d := by
  constructor
  · rintro ⟨j, hj, e⟩
    by_cases z : j = l
    · subst z
      exact .inr e
    · exact .inl ⟨j, by omega, e⟩
  · rintro (⟨j, hj, e⟩ | e)
    · exact ⟨j, by omega, e⟩
    · exact ⟨l, by omega, e⟩
theorem among_on {p h d : Nat} {o : Od} (k : OdOk p h o) (hd : d < p) : among p o.f o.n d ↔ onDay p o (d : Int) = true := by
  unfold onDay
  rw [decide_eq_true_iff]
  have kf := k.f
  have kn := k.n
  have key : ((d : Int) - (o.f : Int)) % (p : Int) = if o.f ≤ d then (d : Int) - o.f else (d : Int) - o.f + p := by
    split
    · exact Int.emod_eq_of_lt (by omega) (by omega)
    · rw [← Int.add_emod_right]
      exact Int.emod_eq_of_lt (by omega) (by omega)
  rw [key]
  constructor
  · rintro ⟨j, hj, e⟩
    by_cases q : o.f + j < p
    · rw [Nat.mod_eq_of_lt q] at e
      rw [if_pos (by omega)]
      omega
    · have e2 : (o.f + j) % p = o.f + j - p := by
        rw [Nat.mod_eq_sub_mod (by omega), Nat.mod_eq_of_lt (by omega)]
      rw [e2] at e
      split
      · omega
      · omega
  · intro q
    by_cases c : o.f ≤ d
    · rw [if_pos c] at q
      exact ⟨d - o.f, by omega, by rw [show o.f + (d - o.f) = d by omega]; exact Nat.mod_eq_of_lt hd⟩
    · rw [if_neg c] at q
      refine ⟨d + p - o.f, by omega, ?_⟩
      rw [show o.f + (d + p - o.f) = d + p by omega, Nat.add_mod_right]
      exact Nat.mod_eq_of_lt hd
/-- one hop of a letter at a house on a day -/
def hop (p : Nat) (os : List Od) (st : Nat × Nat) : Option (Nat × Nat) :=
  match idx p os st.1 (st.2 : Int) with
  | none => none
  | some k => (os[k]?).map fun o => (o.t, st.2 + o.e)
/-- the first n stops of a letter -/
def way (p : Nat) (os : List Od) : Nat → Nat × Nat → List (Nat × Nat)
  | 0, _ => []
  | n + 1, st => st :: match hop p os st with
    | none => []
    | some st' => way p os n st'
/-! ### heaps -/
/-- all but what stands at d is as it was -/
def But (d : Addr) (H H' : Hp) : Prop := ∀ b o, b ≠ d → H b = some o → H' b = some o
theorem But.refl {d : Addr} {H : Hp} : But d H H := fun _ _ _ e => e
theorem But.trans {d : Addr} {H H1 H2 : Hp} (a : But d H H1) (b : But d H1 H2) : But d H H2 := fun c o n e => b c o n (a c o n e)
theorem But.of {d : Addr} {H H' : Hp} (s : Same H H') : But d H H' := fun b o _ e => s b o e
theorem But.upd {d : Addr} {H : Hp} {o : HO} : But d H (upd H d o) := fun b u n e => by rw [upd_ne n]; exact e
theorem same_upd {H : Hp} {p : Addr} {o : HO} (h : H p = none) : Same H (L2.upd H p o) := fun b x e => by
  rw [upd_ne (ne_of_none e h)]
  exact e
theorem same_updN {H H' : Hp} {p : Addr} {o : HO} (s : Same H H') (h : H p = none) : Same H (L2.upd H' p o) := fun b x e => by
  rw [upd_ne (ne_of_none e h)]
  exact s b x e
theorem But.new {d p : Addr} {H : Hp} {o : HO} (h : H p = none) : But d H (L2.upd H p o) := But.of (same_upd h)
theorem But.free {d p : Addr} {H H' : Hp} {o : HO} (s : But d H H') (hd : H' d = some o) (h : H' p = none) : H p = none := by
  cases q : H p with
  | none => rfl
  | some u =>
    by_cases e : p = d
    · rw [e, hd] at h
      cases h
    · rw [s p u e q] at h
      cases h
/-- the tail of ints of the source of numbers -/
def DL (s c : Nat) (r : List Nat) : List V := .int s :: .int c :: r.map fun (n : Nat) => V.int (n : Int)
def DAt (H : Hp) (d : Addr) : Prop := ∃ s c r, s < 2147483647 ∧ r.length ≤ 63 ∧ H d = some (.lst (DL s c r))
theorem DAt.but {H H' : Hp} {d : Addr} (h : DAt H d) (s : Same H H') : DAt H' d := by
  obtain ⟨a, b, c, h1, h2, h3⟩ := h
  exact ⟨a, b, c, h1, h2, s _ _ h3⟩
theorem DAt.som {H : Hp} {d : Addr} (h : DAt H d) : ∃ o, H d = some o := by
  obtain ⟨a, b, c, h1, h2, h3⟩ := h
  exact ⟨_, h3⟩
theorem dl0 {s c : Nat} {r : List Nat} : atI (DL s c r) 0 = some (.int s) := atI_nat (j := 0) rfl
theorem dl1 {s c : Nat} {r : List Nat} : atI (DL s c r) 1 = some (.int c) := atI_nat (j := 1) rfl
theorem ix_at {n j : Nat} (hj : j < n) : ixN n (j : Int) = some j := by
  unfold ixN
  rw [if_pos (by omega), if_pos (by omega)]
  simp
theorem seqIx {n j : Nat} (hj : j < n) : seqIndex? (j : Int) n = some j := by
  unfold seqIndex?
  have h1 : ¬ (j : Int) < 0 := by omega
  have h2 : (decide (0 ≤ (j : Int)) && decide ((j : Int) < (n : Int))) = true := by
    rw [decide_eq_true (show 0 ≤ (j : Int) by omega), decide_eq_true (show (j : Int) < (n : Int) by omega)]
    rfl
  simp only [if_neg h1]
  rw [if_pos h2]
  simp
theorem fmod_nat (a b : Nat) : (a : Int).fmod (b : Int) = ((a % b : Nat) : Int) := by
  rw [Int.fmod_eq_emod_of_nonneg _ (by omega)]
  rfl
theorem fdiv_nat (a b : Nat) : (a : Int).fdiv (b : Int) = ((a / b : Nat) : Int) := by
  rw [Int.fdiv_eq_ediv_of_nonneg _ (by omega)]
  rfl
theorem dlx {s c j : Nat} {r : List Nat} (h : j < 2) : ixN (DL s c r).length (j : Int) = some j := ix_at (by
  show j < (List.map _ r).length + 1 + 1
  omega)
theorem dllen {s c : Nat} {r : List Nat} : (DL s c r).length = r.length + 2 := by
  show (List.map _ r).length + 1 + 1 = _
  rw [List.length_map]
/-- the built-ins that no name of the program hides -/
structure Blt (mg : Str → Option Value) : Prop where
  len : mg "len" = none
  range : mg "range" = none
  isi : mg "isinstance" = none
  int : mg "int" = none
  bool : mg "bool" = none
  str : mg "str" = none
  tuple : mg "tuple" = none
  list : mg "list" = none
  all : mg "all" = none
  abs : mg "abs" = none
  enum : mg "enumerate" = none
/-- a def of the top that keeps its promise -/
def Df (P : Program) (w : World) (K : PySem.W.Frag) (mg : Str → Option Value) (base : Heap) (x : Str) (k : Nat) (ps : List Str) (sp : Sp) : Prop :=
  ∃ (f : Addr) (fd : FuncData), mg x = some (.ref f) ∧ PySem.W.keepIn K (.ref f) = true ∧ Binds K fd ps [] ∧ FnOk P w K mg base CX0 k f fd ps sp
/-- a list of numbers -/
def nints (l : List Nat) : List V := l.map fun (n : Nat) => V.int (n : Int)
/-- filtering a range step by step -/
theorem filter_range_succ' {n : Nat} {f : Nat → Bool} : (List.range (n + 1)).filter f = (List.range n).filter f ++ (if f n = true then [n] else []) := by
  rw [List.range_succ, List.filter_append]
  congr 1
  by_cases c : f n = true
  · rw [if_pos c, List.filter_cons_of_pos c]
    rfl
  · rw [if_neg c, List.filter_cons_of_neg c]
    rfl
abbrev s_l_below : Stmt := top 42
abbrev N_l_below : List Str := ["_law_d", "_law_limit", "_law_result"]
abbrev P_l_below : List Str := ["_law_d", "_law_limit"]
theorem sc_l_below : FnScope N_l_below P_l_below (defScope s_l_below) := ⟨rfl, rfl, rfl, by decide +kernel, rfl, by decide +kernel, by decide +kernel⟩
/-! ### the next number -/
def spBelow : Sp := fun vs H Q _ => ∃ (d : Addr) (n : Nat), vs = [.ref d, .int n] ∧ DAt H d ∧ 0 < n ∧ n < 1152921504606846976 ∧
  ∀ H' (r : Nat), r < n → But d H H' → DAt H' d → Q (.int r) H'
section
variable {P : Program} {w : World} {K : PySem.W.Frag} {mg : Str → Option Value} {base : Heap}
theorem ok_below {f : Addr} {fd : FuncData} (F : Fun K "_law_below" "_law_below" s_l_below f fd) (ml : mg "len" = none) : FnOk P w K mg base CX0 2 f fd P_l_below spBelow := by
  refine F.ok sc_l_below (fun vs H Q E h => ?_) (fun cdv A outer s H vs Q E hr h => ?_)
  · obtain ⟨d, n, rfl, _⟩ := h
    rfl
  · obtain ⟨d, n, rfl, ⟨s0, c, r, hs, hl, hd⟩, n0, n1, q⟩ := h
    refine ⟨_, C8.pss_cut (ps_if (PW.pt (pw_and (pt_cmpR op_eq (pe_ix ix_list (pv 0) pe_int (fun _ _ => rfl)) pe_int (nomark _)) (pw_and1 (pt_cmpR op_gt (pe_callB call_len_seq (by rfl) ml PySem.boot_len (pa_cons (pv 0) pa_nil)) pe_int (nomark _)))))
        (pss_one (ps_asg (pe_bm PySem.F.plainAttrs_list PySem.F.slot_list_pop PySem.F.type_list_pop mt_popAt (pv 0) (pa_cons pe_int pa_nil)) (pg_sub (pv 0) pe_int set_list))) pss_nil)
      (pss_cons (ps_if (pt_cmpR op_gt (pe_ix ix_list (pv 0) pe_int (fun _ _ => rfl)) pe_int (nomark _))
        (pss_cons (ps_set (i := 2) sc_l_below.nd rfl (.inl rfl) (pe_op op_modN (pe_ix ix_list (pv 0) pe_int (fun _ _ => rfl)) (pv 1)))
          (pss_cons (ps_asg (pe_op op_fdivW (pe_ix ix_list (pv 0) pe_int (fun _ _ => rfl)) (pv 1)) (pg_sub (pv 0) pe_int set_list)) (pss_one (ps_ret (pv 2))))) pss_nil)
      (pss_cons (ps_asg (pe_op op_modN (pe_op op_add (pe_op op_mul (pe_ix ix_list (pv 0) pe_int (fun _ _ => rfl)) pe_int) pe_int) pe_int) (pg_sub (pv 0) pe_int set_list))
        (pss_one (ps_ret (pe_op op_modN (pe_op op_fdivN (pe_ix ix_list (pv 0) pe_int (fun _ _ => rfl)) pe_int) (pv 1)))))), ?_⟩
    -- if d[1] == 0 and len(d) > 2: d[1] = d.pop(2)
    have rest : ∀ (s1 c1 : Nat) (r1 : List Nat) (H1 : Hp), s1 < 2147483647 → r1.length ≤ 63 → But d H H1 → H1 d = some (.lst (DL s1 c1 r1)) →
        (fun σ' H' => σ' = [some (V.ref d), some (V.int n), none] ∧ But d H H' ∧ DAt H' d : L2.St → Hp → Prop) [some (V.ref d), some (V.int n), none] H1 := fun s1 c1 r1 H1 a1 a2 a3 a4 => ⟨rfl, a3, s1, c1, r1, a1, a2, a4⟩
    refine ⟨fun σ' H' => σ' = [some (V.ref d), some (V.int n), none] ∧ But d H H' ∧ DAt H' d, ⟨_, rfl, d, _, 1, _, rfl, rfl, SqL.of hd, dl1, rfl, _, rfl, ?_⟩, ?_⟩
    · refine ite2 (fun e => ?_) (fun _ => iteF (rest s0 c r H hs hl .refl hd))
      refine ⟨_, rfl, d, _, rfl, .inl (SqL.of hd), _, _, rfl, rfl, _, rfl, ?_⟩
      refine ite2 (fun e2 => ?_) (fun _ => rest s0 c r H hs hl .refl hd)
      have e3 : 2 < ((DL s0 c r).length : Int) := of_decide_eq_true e2
      rw [dllen] at e3
      cases r with
      | nil => exact absurd e3 (by decide)
      | cons m r2 =>
        have hl2 : r2.length + 1 ≤ 63 := hl
        refine ⟨_, rfl, .inl ⟨rfl, _, SqL.of hd⟩, d, _, 2, 2, .int m, rfl, rfl, hd, by decide, by decide, ?_, rfl, ?_⟩
        · exact seqIx (n := (DL s0 c (m :: r2)).length) (j := 2) (by rw [dllen, List.length_cons]; omega)
        · refine ⟨_, rfl, d, _, 1, 1, rfl, rfl, upd_same, ?_, ?_⟩
          · exact dlx (s := s0) (c := c) (r := r2) (j := 1) (by decide)
          · refine rest s0 m r2 _ hs (by omega) (fun b o nb e => ?_) upd_same
            rw [upd_ne nb, upd_ne nb]
            exact e
    · rintro σ' H1 ⟨rfl, b1, s1, c1, r1, hs1, hl1, hd1⟩
      -- if d[1] > 0
      refine ⟨_, rfl, d, _, 1, _, rfl, rfl, SqL.of hd1, dl1, _, _, rfl, rfl, _, rfl, ite2 (fun e => ?_) (fun _ => ?_)⟩
      · refine ⟨_, rfl, d, _, 1, _, rfl, rfl, SqL.of hd1, dl1, _, rfl, _, _, rfl, rfl, by omega, ?_⟩
        refine ⟨_, rfl, d, _, 1, _, rfl, rfl, SqL.of hd1, dl1, _, rfl, _, _, rfl, rfl, wide_div (b := 60) (by omega) (by show n < 2 ^ 60; exact n1) (by decide) (by decide), ?_⟩
        refine ⟨_, rfl, d, _, 1, 1, rfl, rfl, hd1, dlx (j := 1) (by decide), ?_⟩
        refine ⟨_, rfl, ?_⟩
        show Q (V.int ((c1 : Int).fmod (n : Int))) (L2.upd H1 d (.lst (DL s1 c1 r1 |>.set 1 (V.int ((c1 / n : Nat) : Int)))))
        rw [fmod_nat]
        exact q _ _ (Nat.mod_lt _ n0) (b1.trans .upd) ⟨s1, c1 / n, r1, hs1, hl1, upd_same⟩
      · refine ⟨_, rfl, d, _, 0, _, rfl, rfl, SqL.of hd1, dl0, _, _, rfl, rfl, .inl ⟨by omega, by omega⟩, _, _, rfl, rfl, _, _, rfl, rfl, (by show (2147483647 : Int) ≠ 0; decide), ?_⟩
        refine ⟨_, rfl, d, _, 0, 0, rfl, rfl, hd1, dlx (j := 0) (by decide), ?_⟩
        have e5 : ((s1 : Int) * 48271 + 11).fmod 2147483647 = (((s1 * 48271 + 11) % 2147483647 : Nat) : Int) := fmod_nat (s1 * 48271 + 11) 2147483647
        have e6 : ((DL s1 c1 r1).set 0 (V.int (((s1 : Int) * 48271 + 11).fmod 2147483647))) = DL ((s1 * 48271 + 11) % 2147483647) c1 r1 := by
          rw [e5]
          rfl
        have hd2 : (L2.upd H1 d (.lst ((DL s1 c1 r1).set 0 (V.int (((s1 : Int) * 48271 + 11).fmod 2147483647))))) d = some (.lst (DL ((s1 * 48271 + 11) % 2147483647) c1 r1)) := by
          rw [upd_same, e6]
        refine ⟨_, rfl, d, _, 0, _, rfl, rfl, SqL.of hd2, dl0, _, _, rfl, rfl, ⟨by decide, by decide⟩, _, rfl, _, _, rfl, rfl, by omega, ?_⟩
        show Q (V.int (Int.fmod (Int.fdiv (((s1 * 48271 + 11) % 2147483647 : Nat) : Int) ((64 : Nat) : Int)) (n : Int))) _
        rw [fdiv_nat, fmod_nat]
        exact q _ _ (Nat.mod_lt _ n0) (b1.trans .upd) ⟨_, c1, r1, Nat.mod_lt _ (by decide), hl1, hd2⟩
end
abbrev s_l_random : Stmt := top 40
abbrev N_l_random : List Str := ["_law_script", "_law_salt", "_law_seed", "_law_cell"]
abbrev P_l_random : List Str := ["_law_script", "_law_salt"]
theorem sc_l_random : FnScope N_l_random P_l_random (defScope s_l_random) := ⟨rfl, rfl, rfl, by decide +kernel, rfl, by decide +kernel, by decide +kernel⟩
/-! ### the source of numbers -/
def spRandom (K : PySem.W.Frag) : Sp := fun vs H Q _ => ∃ (a : Addr) (ns : List Int) (salt : Nat), vs = [.ref a, .int salt] ∧ SqL K H a (ns.map V.int) ∧ ns.length ≤ 63 ∧ salt < 2147483647 ∧
  ∀ H' d, Same H H' → H d = none → DAt H' d → Q (.ref d) H'
section
variable {P : Program} {w : World} {K : PySem.W.Frag} {mg : Str → Option Value} {base : Heap}
theorem ok_random {f : Addr} {fd : FuncData} (F : Fun K "_law_random" "_law_random" s_l_random f fd) (B : Blt mg) : FnOk P w K mg base CX0 2 f fd P_l_random (spRandom K) := by
  refine F.ok sc_l_random (fun vs H Q E h => ?_) (fun cdv A outer s H vs Q E hr h => ?_)
  · obtain ⟨a, ns, salt, rfl, _⟩ := h
    rfl
  · obtain ⟨a, ns, salt, rfl, hS, hlen, hsalt, q⟩ := h
    refine ⟨_, pss_cons (ps_set (i := 2) sc_l_random.nd rfl (.inl rfl) (pv 1))
      (pss_cons (ps_for PassesOwn.never rfl (pi_list (pv 0)) (pg_name (i := 3) sc_l_random.nd rfl (.inl rfl))
        (pss_one (ps_set (i := 2) sc_l_random.nd rfl (.inl rfl) (pe_op op_modN (pe_op op_add (pe_op op_mul (pv 2) pe_int) (pe_callB call_abs (by rfl) B.abs PyProof.Rows.boot_abs (pa_cons (pv 3) pa_nil))) pe_int))))
      (pss_one (ps_ret (pe_op op_cat (pe_lst (pa_cons (pv 2) (pa_cons pe_int pa_nil)))
        (pe_lc (own := [("_law_cell", 3)]) (g := gName 3) (by rfl) sc_l_random.nd (pi_list (pv 0)) (blkOk_by (N := N_l_random) (sc := defScope s_l_random) (by decide +kernel))
          (fun _ _ _ _ _ => pg_name (i := 3) sc_l_random.nd rfl (.inl rfl)) (fun _ _ _ _ _ => pts_one (pt_cmpR op_ge (pv 3) (pe_op op_pow pe_int pe_int) (nomark _))) (fun _ _ _ _ _ => pv 3)))))), ?_⟩
    refine ⟨_, rfl, .ref a, rfl, a, rfl, ⟨_, hS⟩, for_list (K := K) (a := a) (xs := ns.map V.int) (fun i σ H' => ∃ (z : Nat) (v : Option V), z < 2147483647 ∧ σ = [some (.ref a), some (.int salt), some (.int z), v] ∧ H' = H)
      ⟨salt, none, hsalt, rfl, rfl⟩ (fun i σ H' _ ⟨_, _, _, _, e⟩ => by rw [e]; exact hS) ?_ ?_⟩
    · rintro i y σ H' hi ⟨z, v, hz, rfl, rfl⟩
      obtain ⟨u, rfl⟩ : ∃ u, y = V.int u := by
        rw [List.getElem?_map] at hi
        cases e : ns[i]? with
        | none => rw [e] at hi; cases hi
        | some u => rw [e] at hi; exact ⟨u, (Option.some.inj hi).symm⟩
      refine ⟨_, rfl, _, _, rfl, rfl, .inl ⟨by omega, by omega⟩, _, rfl, _, rfl, _, _, rfl, rfl, _, _, rfl, rfl, (by show (2147483647 : Int) ≠ 0; decide), ?_⟩
      have e1 : (z : Int) * 31 + (if u < 0 then -u else u) = ((z * 31 + u.natAbs : Nat) : Int) := by
        split <;> omega
      refine ⟨(z * 31 + u.natAbs) % 2147483647, some (.int u), Nat.mod_lt _ (by decide), ?_, rfl⟩
      show [some (V.ref a), some (V.int salt), some (V.int (Int.fmod ((z : Int) * 31 + (if u < 0 then -u else u)) 2147483647)), some (V.int u)] = _
      rw [e1, show ((2147483647 : Int)) = ((2147483647 : Nat) : Int) from rfl, fmod_nat]
    · rintro σ H' ⟨z, v, hz, rfl, rfl⟩
      refine ⟨_, rfl, (by show 2 ≤ sizeLine; decide), fun l nl => ?_⟩
      have sl := same_upd (o := HO.lst [V.int z, V.int 0]) nl
      refine ⟨.ref a, rfl, a, rfl, ⟨_, sl.seq hS⟩, fun D nD => ?_⟩
      have nDl : l ≠ D := fun e => by
        rw [← e, upd_same] at nD
        cases nD
      refine lc_list (K := K) (a := a) (xs := ns.map V.int) (fun i H1 => ∃ r : List Nat, r.length ≤ i ∧ H1 = L2.upd (L2.upd H' l (.lst [V.int z, V.int 0])) D (.lst (r.map fun (n : Nat) => V.int (n : Int))))
        ⟨[], Nat.le_refl _, rfl⟩ (fun i H1 _ ⟨r, _, e⟩ => by rw [e]; exact (same_upd nD).seq (sl.seq hS)) ?_ ?_
      · rintro i x H1 hi ⟨r, hr1, rfl⟩
        obtain ⟨u, rfl⟩ : ∃ u, x = V.int u := by
          rw [List.getElem?_map] at hi
          cases e : ns[i]? with
          | none => rw [e] at hi; cases hi
          | some u => rw [e] at hi; exact ⟨u, (Option.some.inj hi).symm⟩
        have hi63 : i < ns.length := by
          have q := (List.getElem?_eq_some_iff.mp hi).1
          rw [List.length_map] at q
          exact q
        refine ⟨rfl, _, rfl, _, _, rfl, rfl, ⟨by decide, by decide, by decide⟩, _, _, rfl, rfl, _, rfl, ite2 (fun e => ?_) (fun _ => ⟨r, by omega, rfl⟩)⟩
        have e1 : (10 : Int) ^ (18 : Int).toNat ≤ u := of_decide_eq_true e
        have e2 : (0 : Int) ≤ u := Int.le_trans (by decide) e1
        refine ⟨_, rfl, _, upd_same, ?_, r ++ [u.toNat], ?_, ?_⟩
        · rw [List.length_map]
          exact small1000 (by omega)
        · rw [List.length_append, List.length_singleton]
          omega
        · rw [upd_upd, List.map_append]
          show L2.upd _ D (.lst (_ ++ [V.int u])) = L2.upd _ D (.lst (_ ++ [V.int (u.toNat : Int)]))
          rw [Int.toNat_of_nonneg e2]
      · rintro H1 ⟨r, hr1, rfl⟩
        rw [List.length_map] at hr1
        refine ⟨l, D, _, _, rfl, rfl, (upd_ne nDl).trans upd_same, upd_same, ?_, fun d nd => ?_⟩
        · rw [List.length_map]
          exact Nat.le_of_lt (small1000 (by show 2 + r.length ≤ 1000; omega))
        · refine q _ d (sl.trans ((same_upd nD).trans (same_upd nd))) (sl.free ((same_upd nD).free nd)) ⟨z, 0, r, hz, by omega, upd_same⟩
end
abbrev s_l_order : Stmt := top 43
abbrev N_l_order : List Str := ["_law_d", "_law_period", "_law_houses", "_law_source", "_law_delay", "_law_target"]
abbrev P_l_order : List Str := ["_law_d", "_law_period", "_law_houses"]
theorem sc_l_order : FnScope N_l_order P_l_order (defScope s_l_order) := ⟨rfl, rfl, rfl, by decide +kernel, rfl, by decide +kernel, by decide +kernel⟩
/-! ### an order made -/
def spOrder : Sp := fun vs H Q _ => ∃ (d : Addr) (p h : Nat), vs = [.ref d, .int p, .int h] ∧ DAt H d ∧ 0 < p ∧ p ≤ 30 ∧ 2 ≤ h ∧ h ≤ 10 ∧
  ∀ H' t o, OdOk p h o → But d H H' → DAt H' d → H t = none → H' t = some (.tup o.vs) → Q (.ref t) H'
section
variable {P : Program} {w : World} {K : PySem.W.Frag} {mg : Str → Option Value} {base : Heap}
theorem two_at {x y : V} {b : Nat} (hb : b < 2) : ∃ v, atI [x, y] (b : Int) = some v ∧ (v = x ∨ v = y) := by
  match b, hb with
  | 0, _ => exact ⟨x, atI_nat (j := 0) rfl, .inl rfl⟩
  | 1, _ => exact ⟨y, atI_nat (j := 1) rfl, .inr rfl⟩
theorem ok_order {f : Addr} {fd : FuncData} (F : Fun K "_law_order" "_law_order" s_l_order f fd) (DB : Df P w K mg base "_law_below" 2 P_l_below spBelow) : FnOk P w K mg base CX0 3 f fd P_l_order spOrder := by
  obtain ⟨fB, fdB, gB, kB, bB, GB⟩ := DB
  refine F.ok sc_l_order (fun vs H Q E h => ?_) (fun cdv A outer s H vs Q E hr h => ?_)
  · obtain ⟨d, p, h, rfl, _⟩ := h
    rfl
  · obtain ⟨d, p, h, rfl, hD, p0, p30, h2, h10, q⟩ := h
    refine ⟨_, pss_cons (ps_par (by rfl) sc_l_order.nd (i := 3) (j := 4) rfl rfl (by decide) rfl rfl
        (pa_cons (pe_call GB hr (by rfl) gB kB bB .nil pass0 (pa_cons (pv 0) (pa_cons (pv 2) pa_nil)))
          (pa_cons (pe_op op_add pe_int (pe_call GB hr (by rfl) gB kB bB .nil pass0 (pa_cons (pv 0) (pa_cons
            (pe_ix ix_list (pe_lst (pa_cons pe_int (pa_cons pe_int pa_nil))) (pe_call GB hr (by rfl) gB kB bB .nil pass0 (pa_cons (pv 0) (pa_cons pe_int pa_nil))) (fun _ _ => rfl)) pa_nil)))) pa_nil)) (by rfl))
      (pss_cons (ps_set (i := 5) sc_l_order.nd rfl (.inl rfl) (pe_op op_modN (pe_op op_add (pe_op op_add (pv 3) pe_int) (pe_call GB hr (by rfl) gB kB bB .nil pass0 (pa_cons (pv 0) (pa_cons (pe_op op_sub (pv 2) pe_int) pa_nil)))) (pv 2)))
      (pss_one (ps_ret (pe_tup (pa_cons (pv 3) (pa_cons (pv 5) (pa_cons (pe_call GB hr (by rfl) gB kB bB .nil pass0 (pa_cons (pv 0) (pa_cons (pv 1) pa_nil)))
        (pa_cons (pe_op op_add pe_int (pe_call GB hr (by rfl) gB kB bB .nil pass0 (pa_cons (pv 0) (pa_cons (pv 1) pa_nil)))) (pa_cons (pv 4) pa_nil))))))))), ?_⟩
    refine ⟨_, rfl, _, rfl, d, h, rfl, hD, by omega, by omega, fun H1 src hsrc b1 D1 => ?_⟩
    refine ⟨_, rfl, (by show 2 ≤ sizeLine; decide), fun l nl => ?_⟩
    have D1' := D1.but (same_upd (o := HO.lst [V.int 3, V.int 9]) nl)
    have ndl : d ≠ l := ne_of_none D1.som.choose_spec nl
    refine ⟨_, rfl, d, 2, rfl, D1', by decide, by decide, fun H2 b hb b2 D2 => ?_⟩
    have hl2 : H2 l = some (.lst [V.int 3, V.int 9]) := b2 l _ ndl.symm upd_same
    obtain ⟨m, hm, hm39⟩ : ∃ m : Nat, atI [V.int 3, V.int 9] (b : Int) = some (V.int m) ∧ (m = 3 ∨ m = 9) := by
      obtain ⟨v, h1, h2⟩ := two_at (x := V.int 3) (y := V.int 9) hb
      rcases h2 with h2 | h2
      · exact ⟨3, by rw [h1, h2]; rfl, .inl rfl⟩
      · exact ⟨9, by rw [h1, h2]; rfl, .inr rfl⟩
    refine ⟨l, _, _, _, rfl, rfl, SqL.of hl2, hm, ?_⟩
    refine ⟨d, m, rfl, D2, by omega, by omega, fun H3 dl hdl b3 D3 => ?_⟩
    refine ⟨_, _, rfl, rfl, _, _, rfl, ?_⟩
    refine ⟨_, rfl, _, _, rfl, rfl, _, rfl, _, rfl, _, _, rfl, rfl, d, h - 1, ?_, D3, by omega, by omega, fun H4 tt htt b4 D4 => ?_⟩
    · show [V.ref d, V.int ((h : Int) - 1)] = _
      rw [show (h : Int) - 1 = ((h - 1 : Nat) : Int) by omega]
    refine ⟨_, _, rfl, rfl, _, rfl, _, _, rfl, rfl, by omega, ?_⟩
    refine ⟨_, rfl, _, rfl, _, rfl, _, rfl, d, p, rfl, D4, by omega, by omega, fun H5 ff hff b5 D5 => ?_⟩
    refine ⟨_, rfl, _, rfl, d, p, rfl, D5, by omega, by omega, fun H6 nn hnn b6 D6 => ?_⟩
    refine ⟨_, _, rfl, rfl, _, rfl, (by show 5 ≤ sizeLine; decide), fun t nt => ?_⟩
    have e1 : ((src : Int) + 1 + (tt : Int)).fmod (h : Int) = (((src + 1 + tt) % h : Nat) : Int) := fmod_nat (src + 1 + tt) h
    have hb : But d H H6 := b1.trans ((But.new nl).trans (b2.trans (b3.trans (b4.trans (b5.trans b6)))))
    have hd6 := D6.som.choose_spec
    have ok : OdOk p h ⟨src, (src + 1 + tt) % h, ff, 1 + nn, 1 + dl⟩ := by
      refine ⟨hsrc, Nat.mod_lt _ (by omega), ?_, hff, by show 1 ≤ 1 + nn; omega, by show 1 + nn ≤ p; omega, by show 1 ≤ 1 + dl; omega, by show 1 + dl ≤ 9; omega⟩
      show src ≠ (src + 1 + tt) % h
      by_cases z : src + 1 + tt < h
      · rw [Nat.mod_eq_of_lt z]
        omega
      · rw [Nat.mod_eq_sub_mod (by omega), Nat.mod_eq_of_lt (by omega)]
        omega
    refine q _ t ⟨src, (src + 1 + tt) % h, ff, 1 + nn, 1 + dl⟩ ok (hb.trans (.new nt)) (D6.but (same_upd nt)) (hb.free hd6 nt) ?_
    rw [upd_same]
    show some (HO.tup [V.int src, V.int (((src : Int) + 1 + (tt : Int)).fmod (h : Int)), V.int ff, V.int (1 + (nn : Int)), V.int (1 + (dl : Int))]) = some (HO.tup [V.int src, V.int (((src + 1 + tt) % h : Nat) : Int), V.int ff, V.int ((1 + nn : Nat) : Int), V.int ((1 + dl : Nat) : Int)])
    rw [e1, Int.natCast_add 1 nn, Int.natCast_add 1 dl]
    rfl
end
/-! ### the parts of a net -/
def OrdAt (H : Hp) (v : V) (o : Od) : Prop := ∃ t, v = .ref t ∧ H t = some (.tup o.vs)
def TupKeep (H H' : Hp) : Prop := ∀ b xs, H b = some (.tup xs) → H' b = some (.tup xs)
theorem tk_of {H H' : Hp} (s : Same H H') : TupKeep H H' := fun b _ e => s b _ e
theorem But.tk {d : Addr} {H H' : Hp} (s : But d H H') (hd : DAt H d) : TupKeep H H' := fun b xs e => by
  obtain ⟨_, _, _, _, _, h3⟩ := hd
  exact s b _ (ne_of e h3 (by intro q; cases q)) e
theorem TupKeep.lst {H : Hp} {a : Addr} {xs : List V} {o : HO} (h : H a = some (.lst xs)) : TupKeep H (L2.upd H a o) := fun b ys e => by
  rw [upd_ne (ne_of e h (by intro q; cases q))]
  exact e
theorem But.updN {d p : Addr} {H H' : Hp} {o : HO} (s : But d H H') (h : H p = none) : But d H (L2.upd H' p o) := fun b u n e => by
  rw [upd_ne (ne_of_none e h)]
  exact s b u n e
theorem DAt.updN {d p : Addr} {H : Hp} {o : HO} (h : DAt H d) (n : d ≠ p) : DAt (L2.upd H p o) d := by
  obtain ⟨a, b, c, h1, h2, h3⟩ := h
  exact ⟨a, b, c, h1, h2, by rw [upd_ne n]; exact h3⟩
theorem TupKeep.trans {H H1 H2 : Hp} (a : TupKeep H H1) (b : TupKeep H1 H2) : TupKeep H H2 := fun c o e => b c o (a c o e)
theorem OrdAt.keep {H H' : Hp} {v : V} {o : Od} (k : TupKeep H H') (h : OrdAt H v o) : OrdAt H' v o := by
  obtain ⟨t, e, ht⟩ := h
  exact ⟨t, e, k _ _ ht⟩
theorem OrdsAt.keep {H H' : Hp} {ts : List V} {os : List Od} (k : TupKeep H H') (h : Paired (OrdAt H) ts os) : Paired (OrdAt H') ts os :=
  Paired.mapP h fun _ _ q => q.keep k
theorem Paired.snoc {α β : Type} {F : α → β → Prop} {x : α} {y : β} : ∀ {l1 : List α} {l2 : List β}, Paired F l1 l2 → F x y → Paired F (l1 ++ [x]) (l2 ++ [y])
  | _, _, .nil, q => .cons q .nil
  | _, _, .cons r t, q => .cons r (Paired.snoc t q)
theorem Paired.get? {α β : Type} {F : α → β → Prop} : ∀ {l1 : List α} {l2 : List β} {i : Nat} {y : β}, Paired F l1 l2 → l2[i]? = some y → ∃ x, l1[i]? = some x ∧ F x y
  | _, _, _, _, .nil, e => by simp at e
  | _, _, 0, _, .cons r _, e => by
    simp at e
    subst e
    exact ⟨_, rfl, r⟩
  | _, _, i + 1, y, .cons _ t, e => by
    obtain ⟨u, h1, h2⟩ := Paired.get? (i := i) (y := y) t (by simpa using e)
    exact ⟨u, by simpa using h1, h2⟩
structure NetOk (p h : Nat) (os : List Od) : Prop where
  p1 : 1 ≤ p
  p30 : p ≤ 30
  h1 : 1 ≤ h
  h10 : h ≤ 10
  len : os.length ≤ 20
  ok : ∀ o ∈ os, OdOk p h o
/-- the orders' tuple -/
def OrdsTup (H : Hp) (t : Addr) (os : List Od) : Prop := ∃ ts, H t = some (.tup ts) ∧ Paired (OrdAt H) ts os
theorem OrdsTup.keep {H H' : Hp} {t : Addr} {os : List Od} (k : TupKeep H H') (h : OrdsTup H t os) : OrdsTup H' t os := by
  obtain ⟨ts, h1, h2⟩ := h
  exact ⟨ts, k _ _ h1, OrdsAt.keep k h2⟩
def PartsAt (H : Hp) (a : Addr) (p h : Nat) (os : List Od) : Prop := ∃ t, H a = some (.tup [.int p, .int h, .ref t]) ∧ OrdsTup H t os
theorem PartsAt.keep {H H' : Hp} {a : Addr} {p h : Nat} {os : List Od} (k : TupKeep H H') (q : PartsAt H a p h os) : PartsAt H' a p h os := by
  obtain ⟨t, h1, h2⟩ := q
  exact ⟨t, k _ _ h1, h2.keep k⟩
abbrev s_l_small : Stmt := top 44
abbrev N_l_small : List Str := ["_law_d", "_law_period", "_law_houses", "_law_k"]
abbrev P_l_small : List Str := ["_law_d"]
theorem sc_l_small : FnScope N_l_small P_l_small (defScope s_l_small) := ⟨rfl, rfl, rfl, by decide +kernel, rfl, by decide +kernel, by decide +kernel⟩
/-! ### the parts of a small net -/
def spSmall : Sp := fun vs H Q _ => ∃ (d : Addr), vs = [.ref d] ∧ DAt H d ∧
  ∀ H' a p h os, NetOk p h os → (p ≤ 5 ∧ 2 ≤ h ∧ h ≤ 4 ∧ 1 ≤ os.length ∧ os.length ≤ 6) → But d H H' → DAt H' d → H a = none → PartsAt H' a p h os → Q (.ref a) H'
section
variable {P : Program} {w : World} {K : PySem.W.Frag} {mg : Str → Option Value} {base : Heap}
theorem ok_small {f : Addr} {fd : FuncData} (F : Fun K "_law_small" "_law_small" s_l_small f fd) (B : Blt mg) (DB : Df P w K mg base "_law_below" 2 P_l_below spBelow) (DO : Df P w K mg base "_law_order" 3 P_l_order spOrder) : FnOk P w K mg base CX0 4 f fd P_l_small spSmall := by
  obtain ⟨fB, fdB, gB, kB, bB, GB⟩ := DB
  obtain ⟨fO, fdO, gO, kO, bO, GO⟩ := DO
  refine F.ok sc_l_small (fun vs H Q E h => ?_) (fun cdv A outer s H vs Q E hr h => ?_)
  · obtain ⟨d, rfl, _⟩ := h
    rfl
  · obtain ⟨d, rfl, hD, q⟩ := h
    have hr1 : Room 2 _ := hr.mono (by decide)
    refine ⟨_, pss_cons (ps_asg (pe_tup (pa_cons (pe_op op_add pe_int (pe_call GB hr1 (by rfl) gB kB bB .nil pass0 (pa_cons (pv 0) (pa_cons pe_int pa_nil)))) (pa_cons (pe_op op_add pe_int (pe_call GB hr1 (by rfl) gB kB bB .nil pass0 (pa_cons (pv 0) (pa_cons pe_int pa_nil)))) pa_nil)))
        (pg_tup (by rfl) (pgs_cons (pg_name (i := 1) sc_l_small.nd rfl (.inr rfl)) (pgs_cons (pg_name (i := 2) sc_l_small.nd rfl (.inr rfl)) pgs_nil))))
      (pss_one (ps_ret (pe_tup (pa_cons (pv 1) (pa_cons (pv 2) (pa_cons (pe_callTy call_tuple_of (by rfl) B.tuple (by decide +kernel) (pa_cons
        (pe_lc (own := [("_law_k", 3)]) (g := gName 3) (tt := tYes) (by rfl) sc_l_small.nd (pi_range1 rfl B.range (pa_cons (pe_op op_add pe_int (pe_call GB hr1 (by rfl) gB kB bB .nil pass0 (pa_cons (pv 0) (pa_cons pe_int pa_nil)))) pa_nil))
          (blkOk_by (N := N_l_small) (sc := defScope s_l_small) (by decide +kernel)) (fun _ _ _ _ _ => pg_name (i := 3) sc_l_small.nd rfl (.inl rfl)) (fun _ _ _ _ _ => pts_nil)
          (fun _ _ _ _ _ => pe_call GO hr (by rfl) gO kO bO .nil pass0 (pa_cons (pv 0) (pa_cons (pv 1) (pa_cons (pv 2) pa_nil))))) pa_nil)) pa_nil)))))), ?_⟩
    refine ⟨_, rfl, d, 5, rfl, hD, by decide, by decide, fun H1 p0 hp0 b1 D1 => ?_⟩
    refine ⟨_, _, rfl, rfl, _, rfl, d, 3, rfl, D1, by decide, by decide, fun H2 h0 hh0 b2 D2 => ?_⟩
    refine ⟨_, _, rfl, rfl, (by show 2 ≤ sizeLine; decide), fun y ny => ?_⟩
    have s3 := same_upd (o := HO.tup [V.int (1 + (p0 : Int)), V.int (2 + (h0 : Int))]) ny
    refine ⟨y, _, rfl, SqT.of upd_same, rfl, _, _, rfl, _, _, rfl, rfl, ?_⟩
    have D3 := D2.but s3
    have B3 : But d H (upd H2 y (.tup [V.int (1 + (p0 : Int)), V.int (2 + (h0 : Int))])) := b1.trans (b2.trans (.of s3))
    generalize (upd H2 y (.tup [V.int (1 + (p0 : Int)), V.int (2 + (h0 : Int))])) = H3 at D3 B3
    have ep : V.int (1 + (p0 : Int)) = .int ((1 + p0 : Nat) : Int) := by rw [Int.natCast_add]; rfl
    have eh : V.int (2 + (h0 : Int)) = .int ((2 + h0 : Nat) : Int) := by rw [Int.natCast_add]; rfl
    simp only [ep, eh]
    generalize hp : 1 + p0 = p
    generalize hh : 2 + h0 = h
    refine ⟨_, rfl, _, rfl, _, rfl, d, 6, rfl, D3, by decide, by decide, fun H4 n hn b4 D4 => ⟨_, _, rfl, rfl, _, rfl, by omega, by omega, fun D nD => ?_⟩⟩
    have D4' := D4.but (same_upd (o := HO.lst []) nD)
    have ndD : d ≠ D := ne_of_none D4.som.choose_spec nD
    have B4 := B3.trans b4
    refine lc_range (lo := 0) (n := (1 + (n : Int)).toNat) (fun i H' => But d H H' ∧ DAt H' d ∧ ∃ (ts : List V) (os : List Od), H' D = some (.lst ts) ∧ ts.length = i ∧ Paired (OrdAt H') ts os ∧ ∀ o ∈ os, OdOk p h o)
      ⟨B4.trans (.new nD), D4', [], [], upd_same, rfl, .nil, fun _ z => by cases z⟩ ?_ ?_
    · rintro i H' hi ⟨bb, DD, ts, os, hDD, hlen, hP, hOk⟩
      refine ⟨rfl, ?_⟩
      refine ⟨_, rfl, _, rfl, _, rfl, d, p, h, rfl, DD, by omega, by omega, by omega, by omega, fun H2 t o hok b2 D2 nt ht => ?_⟩
      have hD2 := b2 D _ ndD.symm hDD
      have tk := b2.tk DD
      have ntD : t ≠ D := (ne_of_none hDD nt).symm
      refine ⟨ts, hD2, small1000 (by omega), (bb.trans b2).updN (B4.free D4.som.choose_spec nD), D2.updN ndD, ts ++ [.ref t], os ++ [o], upd_same, by rw [List.length_append, hlen]; rfl, ?_, ?_⟩
      · refine Paired.snoc (OrdsAt.keep (tk.trans (TupKeep.lst hD2)) hP) ⟨t, rfl, ?_⟩
        rw [upd_ne ntD]
        exact ht
      · intro o' ho'
        rcases List.mem_append.mp ho' with z | z
        · exact hOk o' z
        · rw [List.mem_singleton.mp z]
          exact hok
    · rintro H' ⟨bb, DD, ts, os, hDD, hlen, hP, hOk⟩
      have ho := hP.length
      refine ⟨D, ts, rfl, .inl ⟨SqL.of hDD, fun t nt => ?_⟩⟩
      refine ⟨(by show 3 ≤ sizeLine; decide), fun a na => ?_⟩
      have s1 := same_upd (o := HO.tup ts) nt
      have s2 := same_upd (o := HO.tup [V.int p, V.int h, V.ref t]) na
      refine q _ a p h os ⟨by omega, by omega, by omega, by omega, by omega, hOk⟩ ⟨by omega, by omega, by omega, by omega, by omega⟩ (bb.trans ((But.of s1).trans (.of s2))) (DD.but (s1.trans s2)) (bb.free DD.som.choose_spec (s1.free na)) ⟨t, upd_same, ts, ?_, OrdsAt.keep (tk_of (s1.trans s2)) hP⟩
      rw [upd_ne (ne_of_none (upd_same (H := H')) na), upd_same]
end
abbrev s_is_integer : Stmt := top 19
abbrev N_is_integer : List Str := ["value"]
abbrev P_is_integer : List Str := ["value"]
theorem sc_is_integer : FnScope N_is_integer P_is_integer (defScope s_is_integer) := ⟨rfl, rfl, rfl, by decide +kernel, rfl, by decide +kernel, by decide +kernel⟩
abbrev s_is_within : Stmt := top 20
abbrev N_is_within : List Str := ["value", "low", "high"]
abbrev P_is_within : List Str := ["value", "low", "high"]
theorem sc_is_within : FnScope N_is_within P_is_within (defScope s_is_within) := ⟨rfl, rfl, rfl, by decide +kernel, rfl, by decide +kernel, by decide +kernel⟩
abbrev s_is_order : Stmt := top 27
abbrev N_is_order : List Str := ["period", "houses", "order", "source", "target", "first", "days", "delay"]
abbrev P_is_order : List Str := ["period", "houses", "order"]
theorem sc_is_order : FnScope N_is_order P_is_order (defScope s_is_order) := ⟨rfl, rfl, rfl, by decide +kernel, rfl, by decide +kernel, by decide +kernel⟩
abbrev s_check_orders : Stmt := top 28
abbrev N_check_orders : List Str := ["period", "houses", "orders", "index", "order"]
abbrev P_check_orders : List Str := ["period", "houses", "orders"]
theorem sc_check_orders : FnScope N_check_orders P_check_orders (defScope s_check_orders) := ⟨rfl, rfl, rfl, by decide +kernel, rfl, by decide +kernel, by decide +kernel⟩
/-! ### is_within, is_order, check_orders -/
/-- a value that is no int (a bool, or a thing of another built-in type) -/
def NotInt (K : PySem.W.Frag) (H : Hp) (x : V) : Prop := (∃ b, x = .bl b) ∨ ∃ t, TyX K H x (.type t) ∧ kitB t "int" = some false
def Kn (K : PySem.W.Frag) (H : Hp) (x : V) : Prop := (∃ i, x = .int i) ∨ (NotInt K H x ∧ ∀ i, x ≠ .int i)
def withinB (x : V) (lo hi : Int) : Bool := match x with
  | .int v => decide (lo ≤ v) && decide (v ≤ hi)
  | _ => false
theorem Kn.int {K : PySem.W.Frag} {H : Hp} {i : Int} : Kn K H (.int i) := .inl ⟨i, rfl⟩
theorem withinB_no {x : V} {lo hi : Int} (h : ∀ i, x ≠ .int i) : withinB x lo hi = false := by
  unfold withinB
  split
  · rename_i v
    exact absurd rfl (h v)
  · rfl
def isIntB (x : V) : Bool := match x with
  | .int _ => true
  | _ => false
theorem isIntB_no {x : V} (h : ∀ i, x ≠ .int i) : isIntB x = false := by
  unfold isIntB
  split
  · rename_i v
    exact absurd rfl (h v)
  · rfl
def spIsInt (K : PySem.W.Frag) : Sp := fun vs H Q _ => ∃ (x : V), vs = [x] ∧ Kn K H x ∧ Q (.bl (isIntB x)) H
def spWithin (K : PySem.W.Frag) : Sp := fun vs H Q _ => ∃ (x : V) (lo hi : Int), vs = [x, .int lo, .int hi] ∧ Kn K H x ∧ Q (.bl (withinB x lo hi)) H
section
variable {P : Program} {w : World} {K : PySem.W.Frag} {mg : Str → Option Value} {base : Heap}
theorem ok_isint {f : Addr} {fd : FuncData} (F : Fun K "is_integer" "is_integer" s_is_integer f fd) (B : Blt mg) : FnOk P w K mg base CX0 1 f fd P_is_integer (spIsInt K) := by
  refine F.ok sc_is_integer (fun vs H Q E h => ?_) (fun cdv A outer s H vs Q E hr h => ?_)
  · obtain ⟨x, rfl, _⟩ := h
    rfl
  · obtain ⟨x, rfl, hk, q⟩ := h
    refine ⟨_, pss_one (ps_ret (pe_and (pe_callB call_isi (by rfl) B.isi PyProof.Rows.boot_isinstance (pa_cons (pv 0) (pa_cons (pe_bltn (v := .ty "int") (by rfl) B.int (by decide +kernel) rfl) pa_nil)))
      (pe_one (pe_not (pe_callB call_isi (by rfl) B.isi PyProof.Rows.boot_isinstance (pa_cons (pv 0) (pa_cons (pe_bltn (v := .ty "bool") (by rfl) B.bool (by decide +kernel) rfl) pa_nil))))))), ?_⟩
    rcases hk with ⟨v, rfl⟩ | ⟨⟨b, rfl⟩ | ⟨t, ty, kt⟩, hne⟩
    · refine ⟨_, rfl, _, _, _, _, true, rfl, .ty "int", .base (.int v), kit_ty (by decide +kernel), _, rfl, iteT ?_⟩
      exact ⟨_, rfl, _, _, _, _, false, rfl, .ty "bool", .base (.int v), kit_ty (by decide +kernel), _, rfl, q⟩
    · refine ⟨_, rfl, _, _, _, _, true, rfl, .ty "int", .base (.bl b), kit_ty (by decide +kernel), _, rfl, iteT ?_⟩
      exact ⟨_, rfl, _, _, _, _, true, rfl, .ty "bool", .base (.bl b), kit_ty (by decide +kernel), _, rfl, q⟩
    · rw [isIntB_no hne] at q
      exact ⟨_, rfl, _, _, _, _, false, rfl, .ty "int", ty, kit_ty kt, _, rfl, iteF q⟩
theorem ok_within {f : Addr} {fd : FuncData} (F : Fun K "is_within" "is_within" s_is_within f fd) (DI : Df P w K mg base "is_integer" 1 P_is_integer (spIsInt K)) : FnOk P w K mg base CX0 2 f fd P_is_within (spWithin K) := by
  obtain ⟨fI, fdI, gI, KI, bI, GI⟩ := DI
  refine F.ok sc_is_within (fun vs H Q E h => ?_) (fun cdv A outer s H vs Q E hr h => ?_)
  · obtain ⟨x, lo, hi, rfl, _⟩ := h
    rfl
  · obtain ⟨x, lo, hi, rfl, hk, q⟩ := h
    refine ⟨_, pss_one (ps_ret (pe_and (pe_call GI hr (by rfl) gI KI bI .nil pass0 (pa_cons (pv 0) pa_nil))
      (pe_one (pe_chain op_le op_le (pv 1) (pv 0) (pv 2))))), ?_⟩
    refine ⟨_, rfl, x, rfl, hk, ?_⟩
    cases x with
    | int v =>
      refine ⟨_, rfl, iteT ?_⟩
      refine ⟨_, rfl, _, rfl, _, _, rfl, rfl, _, rfl, ite2 (fun e => ?_) (fun e => ?_)⟩
      · refine ⟨_, rfl, _, _, rfl, rfl, ?_⟩
        have q2 : Q (.bl (decide (lo ≤ v) && decide (v ≤ hi))) H := q
        rw [e, Bool.true_and] at q2
        exact q2
      · have q2 : Q (.bl (decide (lo ≤ v) && decide (v ≤ hi))) H := q
        rw [Bool.eq_false_iff.mpr e, Bool.false_and] at q2
        exact q2
    | _ => exact ⟨_, rfl, iteF q⟩
end
/-- what is_order says of the values of a tuple -/
def orderB (p h : Int) : List V → Bool
  | [s, t, f, n, e] => withinB s 0 (h - 1) && (withinB t 0 (h - 1) && (!decide (s = t) && (withinB f 0 (p - 1) && (withinB n 1 p && withinB e 1 9))))
  | _ => false
theorem within_nat {v lo hi : Nat} (h1 : lo ≤ v) (h2 : v ≤ hi) : withinB (.int v) lo hi = true := by
  show (decide ((lo : Int) ≤ v) && decide ((v : Int) ≤ hi)) = true
  rw [decide_eq_true (by omega), decide_eq_true (by omega)]
  rfl
theorem orderB_ok {p h : Nat} {o : Od} (k : OdOk p h o) : orderB p h o.vs = true := by
  have a1 := k.s; have a2 := k.t; have a3 := k.st; have a4 := k.f; have a5 := k.n1; have a6 := k.n; have a7 := k.e1; have a8 := k.e
  show (withinB (.int o.s) 0 ((h : Int) - 1) && (withinB (.int o.t) 0 ((h : Int) - 1) && (!decide (V.int o.s = V.int o.t) && (withinB (.int o.f) 0 ((p : Int) - 1) && (withinB (.int o.n) 1 p && withinB (.int o.e) 1 9))))) = true
  have e1 : ((h : Int) - 1) = ((h - 1 : Nat) : Int) := by omega
  have e2 : ((p : Int) - 1) = ((p - 1 : Nat) : Int) := by omega
  rw [e1, e2]
  have b1 : withinB (.int o.s) 0 ((h - 1 : Nat) : Int) = true := within_nat (lo := 0) (by omega) (by omega)
  have b2 : withinB (.int o.t) 0 ((h - 1 : Nat) : Int) = true := within_nat (lo := 0) (by omega) (by omega)
  have b3 : withinB (.int o.f) 0 ((p - 1 : Nat) : Int) = true := within_nat (lo := 0) (by omega) (by omega)
  have b4 : withinB (.int o.n) 1 p = true := within_nat (lo := 1) (by omega) (by omega)
  have b5 : withinB (.int o.e) 1 9 = true := within_nat (lo := 1) (hi := 9) (by omega) (by omega)
  have b6 : decide (V.int (o.s : Int) = V.int o.t) = false := decide_eq_false fun z => a3 (by
    have z2 := V.int.inj z
    omega)
  rw [b1, b2, b3, b4, b5, b6]
  rfl
/-- what may be asked whether it is an order: a tuple of known values, or a thing that is no tuple -/
def OrderLike (K : PySem.W.Frag) (H : Hp) (v : V) (p h : Int) (b : Bool) : Prop :=
  (∃ a xs, v = .ref a ∧ H a = some (.tup xs) ∧ (∀ x ∈ xs, Kn K H x) ∧ b = orderB p h xs) ∨ (∃ t, TyX K H v (.type t) ∧ kitB t "tuple" = some false ∧ b = false)
theorem OrdAt.like {K : PySem.W.Frag} {H : Hp} {v : V} {o : Od} {p h : Nat} (k : OdOk p h o) (q : OrdAt H v o) : OrderLike K H v p h true := by
  obtain ⟨t, rfl, ht⟩ := q
  refine .inl ⟨t, _, rfl, ht, fun x hx => ?_, (orderB_ok k).symm⟩
  unfold Od.vs at hx
  simp only [List.mem_cons, List.not_mem_nil, or_false] at hx
  rcases hx with rfl | rfl | rfl | rfl | rfl <;> exact Kn.int
theorem withinB_int {x : V} {lo hi : Int} (h : withinB x lo hi = true) : ∃ i, x = .int i := by
  cases x <;> first
    | exact ⟨_, rfl⟩
    | cases h
def spIsOrder (K : PySem.W.Frag) : Sp := fun vs H Q _ => ∃ (v : V) (p h : Int) (b : Bool), vs = [.int p, .int h, v] ∧ OrderLike K H v p h b ∧ Q (.bl b) H
section
variable {P : Program} {w : World} {K : PySem.W.Frag} {mg : Str → Option Value} {base : Heap}
theorem ok_is_order {f : Addr} {fd : FuncData} (F : Fun K "is_order" "is_order" s_is_order f fd) (B : Blt mg) (DW : Df P w K mg base "is_within" 2 P_is_within (spWithin K)) (hM : ∃ t, mg "LONGEST_DELAY" = some (.int 9 t)) : FnOk P w K mg base CX0 3 f fd P_is_order (spIsOrder K) := by
  obtain ⟨fW, fdW, gW, kW, bW, GW⟩ := DW
  obtain ⟨tk9, hM⟩ := hM
  refine F.ok sc_is_order (fun vs H Q E h => ?_) (fun cdv A outer s H vs Q E hr h => ?_)
  · obtain ⟨v, p, h, b, rfl, _⟩ := h
    rfl
  · obtain ⟨v, p, h, b, rfl, hl, q⟩ := h
    refine ⟨_, pss_cons (ps_if (PW.pt (pw_or (pt_not (pt_val (pe_callB call_isi (by rfl) B.isi PyProof.Rows.boot_isinstance (pa_cons (pv 2) (pa_cons (pe_bltn (v := .ty "tuple") (by rfl) B.tuple (by decide +kernel) rfl) pa_nil)))))
        (pw_or1 (pt_cmpR op_ne (pe_callB call_len_seq (by rfl) B.len PySem.boot_len (pa_cons (pv 2) pa_nil)) pe_int (nomark _))))) (pss_one (ps_ret pe_bl)) pss_nil)
      (pss_cons (ps_asg (pv 2) (pg_tup (by rfl) (pgs_cons (pg_name (i := 3) sc_is_order.nd rfl (.inl rfl)) (pgs_cons (pg_name (i := 4) sc_is_order.nd rfl (.inl rfl)) (pgs_cons (pg_name (i := 5) sc_is_order.nd rfl (.inl rfl))
        (pgs_cons (pg_name (i := 6) sc_is_order.nd rfl (.inl rfl)) (pgs_cons (pg_name (i := 7) sc_is_order.nd rfl (.inl rfl)) pgs_nil)))))))
      (pss_cons (ps_if (pt_not (PW.pt (pw_and (pt_val (pe_call GW hr (by rfl) gW kW bW .nil pass0 (pa_cons (pv 3) (pa_cons pe_int (pa_cons (pe_op op_sub (pv 1) pe_int) pa_nil)))))
        (pw_and (pt_val (pe_call GW hr (by rfl) gW kW bW .nil pass0 (pa_cons (pv 4) (pa_cons pe_int (pa_cons (pe_op op_sub (pv 1) pe_int) pa_nil)))))
          (pw_and1 (pt_cmpR op_ne (pv 3) (pv 4) (nomark _))))))) (pss_one (ps_ret pe_bl)) pss_nil)
      (pss_one (ps_ret (pe_and (pe_call GW hr (by rfl) gW kW bW .nil pass0 (pa_cons (pv 5) (pa_cons pe_int (pa_cons (pe_op op_sub (pv 0) pe_int) pa_nil))))
        (pe_and (pe_call GW hr (by rfl) gW kW bW .nil pass0 (pa_cons (pv 6) (pa_cons pe_int (pa_cons (pv 0) pa_nil))))
          (pe_one (pe_call GW hr (by rfl) gW kW bW .nil pass0 (pa_cons (pv 7) (pa_cons pe_int (pa_cons (pe_glob (v := .int 9) rfl hM ⟨_, rfl⟩) pa_nil))))))))))), ?_⟩
    rcases hl with ⟨a, xs, rfl, ha, hkn, rfl⟩ | ⟨t, ty, kt, rfl⟩
    · refine ⟨_, rfl, _, _, _, _, true, rfl, .ty "tuple", .base (.tup ha), kit_ty (by decide +kernel), _, rfl, iteF ?_⟩
      refine ⟨_, rfl, a, xs, rfl, .inr (SqT.of ha), rfl, _, rfl, ?_⟩
      refine ite2 (fun e => ?_) (fun e => ?_)
      · have hne : orderB p h xs = false := by
          match xs, e with
          | [], _ => rfl
          | [_], _ => rfl
          | [_, _], _ => rfl
          | [_, _, _], _ => rfl
          | [_, _, _, _], _ => rfl
          | [_, _, _, _, _], e => exact absurd e (by show ¬ (!decide (V.int ((5 : Nat) : Int) = V.int 5)) = true; decide)
          | _ :: _ :: _ :: _ :: _ :: _ :: _, _ => rfl
        rw [hne] at q
        exact q
      · have h5 : xs.length = 5 := by
          by_cases z : xs.length = 5
          · exact z
          · exact absurd (show (!decide (V.int (xs.length : Int) = V.int 5)) = true by
              rw [decide_eq_false (fun z2 => z (by have z3 := V.int.inj z2; omega))]
              rfl) e
        match xs, h5 with
        | [x1, x2, x3, x4, x5], _ =>
          have k1 := hkn x1 (by simp)
          have k2 := hkn x2 (by simp)
          have k3 := hkn x3 (by simp)
          have k4 := hkn x4 (by simp)
          have k5 := hkn x5 (by simp)
          refine ⟨_, rfl, a, _, rfl, SqT.of ha, rfl, _, _, rfl, _, _, rfl, _, _, rfl, _, _, rfl, _, _, rfl, rfl, ?_⟩
          have q2 : Q (.bl (withinB x1 0 (h - 1) && (withinB x2 0 (h - 1) && (!decide (x1 = x2) && (withinB x3 0 (p - 1) && (withinB x4 1 p && withinB x5 1 9)))))) H := q
          refine ⟨_, rfl, _, rfl, _, _, rfl, rfl, x1, 0, h - 1, rfl, k1, _, rfl, ite2 (fun e1 => ?_) (fun e1 => ?_)⟩
          · refine ⟨_, rfl, _, rfl, _, _, rfl, rfl, x2, 0, h - 1, rfl, k2, _, rfl, ite2 (fun e2 => ?_) (fun e2 => ?_)⟩
            · obtain ⟨i1, rfl⟩ := withinB_int e1
              obtain ⟨i2, rfl⟩ := withinB_int e2
              rw [e1, e2, Bool.true_and, Bool.true_and] at q2
              refine ⟨_, rfl, _, rfl, rfl, _, rfl, ?_⟩
              by_cases z : V.int i1 = V.int i2
              · rw [decide_eq_true z] at q2
                rw [decide_eq_true z]
                exact q2
              · rw [decide_eq_false z, Bool.not_false, Bool.true_and] at q2
                rw [decide_eq_false z]
                refine ⟨_, rfl, _, rfl, _, _, rfl, rfl, x3, 0, p - 1, rfl, k3, _, rfl, ite2 (fun e3 => ?_) (fun e3 => ?_)⟩
                · rw [e3, Bool.true_and] at q2
                  refine ⟨_, rfl, _, rfl, x4, 1, p, rfl, k4, _, rfl, ite2 (fun e4 => ?_) (fun e4 => ?_)⟩
                  · rw [e4, Bool.true_and] at q2
                    exact ⟨_, rfl, x5, 1, 9, rfl, k5, q2⟩
                  · rw [Bool.eq_false_iff.mpr e4, Bool.false_and] at q2
                    exact q2
                · rw [Bool.eq_false_iff.mpr e3, Bool.false_and] at q2
                  exact q2
            · rw [e1, Bool.eq_false_iff.mpr e2, Bool.true_and, Bool.false_and] at q2
              exact iteT q2
          · rw [Bool.eq_false_iff.mpr e1, Bool.false_and] at q2
            exact iteT q2
    · exact ⟨_, rfl, _, _, _, _, false, rfl, .ty "tuple", ty, kit_ty kt, _, rfl, iteT q⟩
end
/-! ### walks over an enumerated tuple; check_orders for valid nets; find_followed -/
theorem for_enumT {K : PySem.W.Frag} {a : Addr} {xs : List V} {g : TG} {tb : TS} {D : Ends} {σ : L2.St} {H : Hp} (Pv : Nat → L2.St → Hp → Prop) (h0 : Pv 0 σ H) (hl : ∀ i σ H, Pv i σ H → H a = some (.tup xs))
    (hs : ∀ i x σ H T, xs[i]? = some x → Pv i σ H → H T = none → g (.ref T) σ (upd H T (.tup [.int (i : Nat), x])) fun σ2 H2 => tb { D with nx := Pv (i + 1), ct := Pv (i + 1), bk := D.nx } σ2 H2) (hd : ∀ σ H, Pv xs.length σ H → D.nx σ H) :
    ∃ W : Nat → Nat → L2.St → Hp → Prop, (∃ m, W 0 m σ H) ∧ ∀ i m σ H, W i m σ H →
      ((IteT K a).stop i H ∧ D.nx σ H) ∨ ((IteT K a).go i H ∧ ∃ N : L2.St → Hp → Prop, (∀ σ' H', N σ' H' → ∃ m', m' < m ∧ W (i + 1) m' σ' H') ∧ ∀ x H', (IteT K a).yld i H x H' → g x σ H' fun σ2 H2 => tb { D with nx := N, ct := N, bk := D.nx } σ2 H2) := by
  refine ⟨fun i m σ H => m = xs.length - i ∧ i ≤ xs.length ∧ Pv i σ H, ⟨xs.length, rfl, Nat.zero_le _, h0⟩, ?_⟩
  rintro i m σ H ⟨rfl, hi, p⟩
  have q := hl i σ H p
  by_cases hlt : i < xs.length
  · refine .inr ⟨⟨xs, xs[i], SqT.of q, List.getElem?_eq_getElem hlt⟩, Pv (i + 1), fun σ' H' p' => ⟨xs.length - (i + 1), by omega, rfl, hlt, p'⟩, fun x H' y => ?_⟩
    obtain ⟨T, x', rfl, nT, rfl, f⟩ := y
    obtain rfl : x' = xs[i] := Option.some.inj ((f xs (SqT.of q)).symm.trans (List.getElem?_eq_getElem hlt))
    exact hs i _ σ H T (List.getElem?_eq_getElem hlt) p nT
  · refine .inl ⟨⟨xs, SqT.of q, by omega⟩, hd σ H ?_⟩
    rw [show xs.length = i by omega]
    exact p
def spChkOrders : Sp := fun vs H Q _ => ∃ (t : Addr) (p h : Nat) (os : List Od), vs = [.int p, .int h, .ref t] ∧ NetOk p h os ∧ OrdsTup H t os ∧ ∀ H', Same H H' → Q .non H'
section
variable {P : Program} {w : World} {K : PySem.W.Frag} {mg : Str → Option Value} {base : Heap}
theorem ok_chk_orders {f : Addr} {fd : FuncData} (F : Fun K "check_orders" "check_orders" s_check_orders f fd) (B : Blt mg) (DI : Df P w K mg base "is_order" 3 P_is_order (spIsOrder K)) (hM : ∃ t, mg "MOST_ORDERS" = some (.int 20 t)) : FnOk P w K mg base CX0 4 f fd P_check_orders spChkOrders := by
  obtain ⟨fI, fdI, gI, kI, bI, GI⟩ := DI
  obtain ⟨tk20, hM⟩ := hM
  refine F.ok sc_check_orders (fun vs H Q E h => ?_) (fun cdv A outer s H vs Q E hr h => ?_)
  · obtain ⟨t, p, h, os, rfl, _⟩ := h
    rfl
  · obtain ⟨t, p, h, os, rfl, N, ⟨ts, ht, hP⟩, q⟩ := h
    refine ⟨_, pss_cons (ps_if (pt_not (pt_val (pe_callB call_isi (by rfl) B.isi PyProof.Rows.boot_isinstance (pa_cons (pv 2) (pa_cons (pe_bltn (v := .ty "tuple") (by rfl) B.tuple (by decide +kernel) rfl) pa_nil))))) (pss_one ps_never) pss_nil)
      (pss_one (ps_for PassesOwn.never rfl (pi_enumT (by rfl) B.enum (pa_cons (pv 2) pa_nil)) (pg_tup (by rfl) (pgs_cons (pg_name (i := 3) sc_check_orders.nd rfl (.inl rfl)) (pgs_cons (pg_name (i := 4) sc_check_orders.nd rfl (.inl rfl)) pgs_nil)))
        (pss_one (ps_if (PW.pt (pw_or (pt_cmpR op_eq (pv 3) (pe_glob (v := .int 20) rfl hM ⟨_, rfl⟩) (nomark _)) (pw_or1 (pt_not (pt_val (pe_call GI hr (by rfl) gI kI bI .nil pass0 (pa_cons (pv 0) (pa_cons (pv 1) (pa_cons (pv 4) pa_nil)))))))))
          (pss_one ps_never) pss_nil)))), ?_⟩
    refine ⟨_, rfl, _, _, _, _, true, rfl, .ty "tuple", .base (.tup ht), kit_ty (by decide +kernel), _, rfl, iteF ?_⟩
    refine ⟨_, rfl, t, ts, rfl, ht, for_enumT (K := K) (a := t) (xs := ts) (fun i σ H' => (∃ x y, σ = [some (.int p), some (.int h), some (.ref t), x, y]) ∧ Same H H') ⟨⟨_, _, rfl⟩, .refl H⟩ (fun i σ H' ⟨_, s1⟩ => s1 _ _ ht) ?_ ?_⟩
    · rintro i x σ H1 T hi ⟨⟨x3, x4, rfl⟩, s1⟩ nT
      have s2 := same_upd (o := HO.tup [.int (i : Nat), x]) nT
      have hil : i < ts.length := (List.getElem?_eq_some_iff.mp hi).1
      have hlen := hP.length
      have hlen2 := N.len
      refine ⟨T, _, rfl, SqT.of upd_same, rfl, _, _, rfl, _, _, rfl, rfl, ?_⟩
      refine ⟨_, rfl, rfl, _, rfl, ?_⟩
      have e1 : decide (V.int ((i : Nat) : Int) = V.int 20) = false := decide_eq_false fun z => by
        have z2 := V.int.inj z
        omega
      rw [e1]
      obtain ⟨x', hx', ho⟩ := Paired.get? (i := i) hP (List.getElem?_eq_getElem (by omega))
      obtain rfl : x' = x := Option.some.inj (hx'.symm.trans hi)
      have hk := N.ok _ (List.getElem_mem (by omega : i < os.length))
      exact iteF ⟨_, rfl, _, rfl, _, rfl, x', p, h, true, rfl, OrdAt.like hk (ho.keep (tk_of (s1.trans s2))), _, rfl, iteF ⟨⟨_, _, rfl⟩, s1.trans s2⟩⟩
    · rintro σ H1 ⟨_, s1⟩
      exact q H1 s1
end
/-! the table of the orders that are followed -/
def amongB (p f : Nat) : Nat → Nat → Bool
  | 0, _ => false
  | l + 1, d => amongB p f l d || decide ((f + l) % p = d)
theorem amongB_iff {p f d : Nat} : ∀ l, amongB p f l d = true ↔ among p f l d
  | 0 => ⟨fun h => Bool.noConfusion h, fun h => absurd h (among_zero _ _ _)⟩
  | l + 1 => by
    show (amongB p f l d || decide ((f + l) % p = d)) = true ↔ _
    rw [among_succ, Bool.or_eq_true, amongB_iff l, decide_eq_true_iff]
def cellV (p : Nat) (os : List Od) (s d : Nat) : V := optV (idx p os s (d : Int))
/-- amid the order o, the k-th: its first l days are done -/
def cellM (p : Nat) (os : List Od) (o : Od) (k l s d : Nat) : V := optV ((idx p os s (d : Int)).or (if (decide (s = o.s) && amongB p o.f l d) = true then some k else none))
structure TabAt (H0 H : Hp) (fl : Addr) (p h : Nat) (g : Nat → Nat → V) (as : List Addr) : Prop where
  same : Same H0 H
  len : as.length = h
  fl0 : H0 fl = none
  flat : H fl = some (.lst (as.map V.ref))
  nd : as.Nodup
  out : fl ∉ as
  new : ∀ a ∈ as, H0 a = none
  row : ∀ i a, as[i]? = some a → H a = some (.lst ((List.range p).map (g i)))
theorem TabAt.congr {H0 H : Hp} {fl : Addr} {p h : Nat} {g g' : Nat → Nat → V} {as : List Addr} (T : TabAt H0 H fl p h g as) (e : ∀ s d, s < h → d < p → g s d = g' s d) : TabAt H0 H fl p h g' as := by
  refine { T with row := fun i a hi => ?_ }
  rw [T.row i a hi]
  have hi2 := (List.getElem?_eq_some_iff.mp hi).1
  rw [List.map_congr_left fun d hd => e i d (by rw [← T.len]; exact hi2) (List.mem_range.mp hd)]
theorem TabAt.keep {H0 H H' : Hp} {fl : Addr} {p h : Nat} {g : Nat → Nat → V} {as : List Addr} (T : TabAt H0 H fl p h g as) (s : Same H H') : TabAt H0 H' fl p h g as :=
  { T with same := T.same.trans s, flat := s _ _ T.flat, row := fun i a hi => s _ _ (T.row i a hi) }
theorem range_set {p dd : Nat} {g : Nat → V} {v : V} : ((List.range p).map g).set dd v = (List.range p).map fun d => if d = dd then v else g d := by
  apply List.ext_getElem
  · simp
  · intro i h1 h2
    rw [List.getElem_set]
    simp only [List.getElem_map, List.getElem_range]
    by_cases z : dd = i
    · subst z; simp
    · rw [if_neg z, if_neg (Ne.symm z)]
theorem TabAt.set {H0 H : Hp} {fl a : Addr} {p h s dd : Nat} {g : Nat → Nat → V} {as : List Addr} {v : V} (T : TabAt H0 H fl p h g as) (ha : as[s]? = some a) :
    TabAt H0 (upd H a (.lst (((List.range p).map (g s)).set dd v))) fl p h (fun i d => if i = s ∧ d = dd then v else g i d) as := by
  have ham : a ∈ as := List.mem_of_getElem? ha
  have sl : s < as.length := (List.getElem?_eq_some_iff.mp ha).1
  refine { T with same := fun b o e => ?_, flat := ?_, row := fun i b hi => ?_ }
  · have n : b ≠ a := fun z => by
      have q := T.new a ham
      rw [← z, e] at q
      cases q
    rw [upd_ne n]
    exact T.same _ _ e
  · have n : fl ≠ a := fun z => T.out (by rw [z]; exact ham)
    rw [upd_ne n]
    exact T.flat
  · by_cases z : i = s
    · subst z
      obtain rfl : b = a := Option.some.inj (hi.symm.trans ha)
      rw [upd_same, range_set]
      congr 2
      apply List.map_congr_left
      intro d _
      by_cases z2 : d = dd
      · simp [z2]
      · simp [z2]
    · have n : b ≠ a := fun z2 => by
        subst z2
        have i1 := (List.getElem?_eq_some_iff.mp hi)
        have i2 := (List.getElem?_eq_some_iff.mp ha)
        obtain ⟨l1, e1⟩ := i1
        obtain ⟨l2, e2⟩ := i2
        have pw := List.pairwise_iff_getElem.mp T.nd
        rcases Nat.lt_or_gt_of_ne z with q | q
        · exact pw i s l1 l2 q (e1.trans e2.symm)
        · exact pw s i l2 l1 q (e2.trans e1.symm)
      rw [upd_ne n, T.row i b hi]
      congr 2
      apply List.map_congr_left
      intro d _
      rw [if_neg (fun q => z q.1)]
def spFollowed : Sp := fun vs H Q _ => ∃ (t : Addr) (p h : Nat) (os : List Od), vs = [.int p, .int h, .ref t] ∧ NetOk p h os ∧ OrdsTup H t os ∧ ∀ H' fl as, TabAt H H' fl p h (cellV p os) as → Q (.ref fl) H'
theorem rep_flat {p : Nat} {v : V} : (List.replicate p [v]).flatten = List.replicate p v := by
  induction p with
  | zero => rfl
  | succ n ih => rw [List.replicate_succ, List.flatten_cons, ih]; rfl
theorem rep_range {p : Nat} {v : V} : List.replicate p v = (List.range p).map fun _ => v := by
  rw [List.map_const', List.length_range]
theorem optV_non {o : Option Nat} (h : optV o = .non) : o = none := by
  cases o with
  | none => rfl
  | some k => cases h
theorem cellM_hit {p i l s d : Nat} {os : List Od} {o : Od} (h : cellM p os o i l o.s ((o.f + l) % p) = .non) :
    (if s = o.s ∧ d = (o.f + l) % p then V.int (i : Nat) else cellM p os o i l s d) = cellM p os o i (l + 1) s d := by
  unfold cellM at *
  by_cases c : s = o.s ∧ d = (o.f + l) % p
  · rw [if_pos c]
    obtain ⟨c1, c2⟩ := c
    subst c1 c2
    have z := optV_non h
    rw [Option.or_eq_none_iff] at z
    rw [z.1]
    have e : (decide (o.s = o.s) && amongB p o.f (l + 1) ((o.f + l) % p)) = true := by
      rw [decide_eq_true rfl, Bool.true_and]
      exact (amongB_iff (l + 1)).mpr (among_succ.mpr (.inr rfl))
    rw [if_pos e]
    rfl
  · rw [if_neg c]
    have e : (decide (s = o.s) && amongB p o.f l d) = (decide (s = o.s) && amongB p o.f (l + 1) d) := by
      by_cases c1 : s = o.s
      · have c2 : ¬ (o.f + l) % p = d := fun z => c ⟨c1, z.symm⟩
        show _ = (_ && (amongB p o.f l d || decide ((o.f + l) % p = d)))
        rw [decide_eq_false c2, Bool.or_false]
      · rw [decide_eq_false c1, Bool.false_and, Bool.false_and]
    rw [e]
theorem cellM_miss {p i l s d : Nat} {os : List Od} {o : Od} (h : cellM p os o i l o.s ((o.f + l) % p) ≠ .non) : cellM p os o i l s d = cellM p os o i (l + 1) s d := by
  by_cases c : s = o.s ∧ d = (o.f + l) % p
  · obtain ⟨c1, c2⟩ := c
    subst c1 c2
    unfold cellM at *
    have e : (decide (o.s = o.s) && amongB p o.f (l + 1) ((o.f + l) % p)) = true := by
      rw [decide_eq_true rfl, Bool.true_and]
      exact (amongB_iff (l + 1)).mpr (among_succ.mpr (.inr rfl))
    rw [if_pos e]
    cases q : idx p os o.s ((o.f + l) % p : Nat) with
    | some k => rfl
    | none =>
      rw [q] at h
      by_cases c : (decide (o.s = o.s) && amongB p o.f l ((o.f + l) % p)) = true
      · rw [if_pos c]
      · rw [if_neg c] at h
        exact absurd rfl h
  · unfold cellM
    have e : (decide (s = o.s) && amongB p o.f l d) = (decide (s = o.s) && amongB p o.f (l + 1) d) := by
      by_cases c1 : s = o.s
      · have c2 : ¬ (o.f + l) % p = d := fun z => c ⟨c1, z.symm⟩
        show _ = (_ && (amongB p o.f l d || decide ((o.f + l) % p = d)))
        rw [decide_eq_false c2, Bool.or_false]
      · rw [decide_eq_false c1, Bool.false_and, Bool.false_and]
    rw [e]
theorem cellM_end {p h i s d : Nat} {os : List Od} {o : Od} (k : OdOk p h o) (hi : os[i]? = some o) (hd : d < p) : cellM p (os.take i) o i o.n s d = cellV p (os.take (i + 1)) s d := by
  unfold cellM cellV
  rw [idx_take_succ hi]
  have e : (decide (s = o.s) && amongB p o.f o.n d) = hit p s (d : Int) o := by
    unfold hit
    have e1 : amongB p o.f o.n d = onDay p o (d : Int) := by
      rw [Bool.eq_iff_iff, amongB_iff, among_on k hd]
    rw [e1]
    by_cases c : s = o.s
    · rw [decide_eq_true c, decide_eq_true c.symm]
    · rw [decide_eq_false c, decide_eq_false fun z => c z.symm]
  rw [e]
abbrev s_find_followed : Stmt := top 29
abbrev N_find_followed : List Str := ["period", "houses", "orders", "followed", "index", "source", "target", "first", "days", "delay", "later", "day", "house"]
abbrev P_find_followed : List Str := ["period", "houses", "orders"]
theorem sc_find_followed : FnScope N_find_followed P_find_followed (defScope s_find_followed) := ⟨rfl, rfl, rfl, by decide +kernel, rfl, by decide +kernel, by decide +kernel⟩
section
variable {P : Program} {w : World} {K : PySem.W.Frag} {mg : Str → Option Value} {base : Heap}
theorem ok_followed {f : Addr} {fd : FuncData} (F : Fun K "find_followed" "find_followed" s_find_followed f fd) (B : Blt mg) : FnOk P w K mg base CX0 2 f fd P_find_followed spFollowed := by
  refine F.ok sc_find_followed (fun vs H Q E h => ?_) (fun cdv A outer s H vs Q E hr h => ?_)
  · obtain ⟨t, p, h, os, rfl, _⟩ := h
    rfl
  · obtain ⟨t, p, h, os, rfl, N, hO, q⟩ := h
    obtain ⟨ts, ht, hP⟩ := id hO
    have p1 := N.p1; have p30 := N.p30; have h1 := N.h1; have h10 := N.h10; have ol := N.len
    refine ⟨_, pss_cons (ps_setLc (i := 3) (own := [("house", 12)]) (g := gName 12) (tt := tYes) (by rfl) sc_find_followed.nd rfl rfl (sw_true rfl rfl rfl (by decide +kernel))
          (pi_range1 rfl B.range (pa_cons (pv 1) pa_nil)) (blkOk_by (N := N_find_followed) (sc := defScope s_find_followed) (by decide +kernel)) (fun _ _ _ _ _ => pg_name (i := 12) sc_find_followed.nd rfl (.inl rfl)) (fun _ _ _ _ _ => pts_nil)
          (fun _ _ _ _ _ => pe_op op_rep (pe_lst (pa_cons pe_non pa_nil)) (pv 0)))
      (pss_cons (ps_for PassesOwn.never rfl (pi_enumT (by rfl) B.enum (pa_cons (pv 2) pa_nil)) (pg_tup (by rfl) (pgs_cons (pg_name (i := 4) sc_find_followed.nd rfl (.inl rfl)) (pgs_cons (pg_tup (by rfl)
            (pgs_cons (pg_name (i := 5) sc_find_followed.nd rfl (.inl rfl)) (pgs_cons (pg_name (i := 6) sc_find_followed.nd rfl (.inl rfl)) (pgs_cons (pg_name (i := 7) sc_find_followed.nd rfl (.inl rfl)) (pgs_cons (pg_name (i := 8) sc_find_followed.nd rfl (.inl rfl)) (pgs_cons (pg_name (i := 9) sc_find_followed.nd rfl (.inl rfl)) pgs_nil)))))) pgs_nil)))
        (pss_one (ps_for PassesOwn.never rfl (pi_range1 rfl B.range (pa_cons (pv 8) pa_nil)) (pg_name (i := 10) sc_find_followed.nd rfl (.inl rfl))
          (pss_cons (ps_set (i := 11) sc_find_followed.nd rfl (.inl rfl) (pe_op op_modN (pe_op op_add (pv 7) (pv 10)) (pv 0)))
          (pss_one (ps_if (pt_cmpR op_isN (pe_ix ix_list (pe_ix ix_list (pv 3) (pv 5) (fun _ _ => rfl)) (pv 11) (fun _ _ => rfl)) pe_non (nomark _))
            (pss_one (ps_asg (pv 4) (pg_sub (pe_ix ix_list (pv 3) (pv 5) (fun _ _ => rfl)) (pv 11) set_list))) pss_nil))))))
      (pss_one (ps_ret (pv 3)))), ?_⟩
    -- the empty table
    refine ⟨_, rfl, h, rfl, by omega, by omega, fun D nD => ?_⟩
    refine lc_range (lo := 0) (n := (h : Int).toNat) (fun i H' => ∃ as, TabAt H H' D p i (fun _ _ => .non) as) ⟨[], same_upd nD, rfl, nD, upd_same, List.nodup_nil, by simp, by simp, fun i a z => by simp at z⟩ ?_ ?_
    · rintro i H' hi ⟨as, T⟩
      refine ⟨rfl, Nat.le_trans (by decide : 1 ≤ 1000) (Nat.le_of_lt (small1000 (Nat.le_refl _))), fun l0 nl0 => ?_⟩
      have T1 := T.keep (same_upd (o := HO.lst [V.non]) nl0)
      refine ⟨_, rfl, l0, p, [.non], rfl, rfl, upd_same, by omega, by omega, Nat.le_of_lt (small1000 (by show 1 * (p : Int).toNat ≤ 1000; omega)), fun r nr => ?_⟩
      have T2 := T1.keep (same_upd (o := HO.lst (List.replicate (p : Int).toNat [V.non]).flatten) nr)
      have fD := T2.flat
      refine ⟨_, fD, small1000 (by rw [List.length_map, T.len]; omega), as ++ [r], ?_⟩
      have nrD : r ≠ D := (ne_of_none T1.flat nr).symm
      have nas : r ∉ as := fun z => by
        obtain ⟨j, hj⟩ := List.getElem?_of_mem z
        exact ne_of_none (T1.row j r hj) nr rfl
      have nr0 : H r = none := T1.same.free nr
      refine ⟨fun b o e => ?_, by rw [List.length_append, T.len]; rfl, T.fl0, ?_, ?_, ?_, ?_, ?_⟩
      · rw [upd_ne (ne_of_none e T.fl0)]
        exact T2.same _ _ e
      · rw [upd_same, List.map_append]
        rfl
      · rw [List.nodup_append]
        exact ⟨T.nd, by simp, fun a ha b hb => by rw [List.mem_singleton.mp hb]; exact fun z => nas (z ▸ ha)⟩
      · intro z
        rcases List.mem_append.mp z with z | z
        · exact T.out z
        · exact nrD (List.mem_singleton.mp z).symm
      · intro a ha
        rcases List.mem_append.mp ha with z | z
        · exact T.new a z
        · rw [List.mem_singleton.mp z]
          exact nr0
      · intro j a hj
        by_cases z : j < as.length
        · rw [List.getElem?_append_left z] at hj
          have hn : a ≠ D := fun z2 => T.out (by rw [← z2]; exact List.mem_of_getElem? hj)
          rw [upd_ne hn]
          exact T2.row j a hj
        · rw [List.getElem?_append_right (by omega)] at hj
          obtain ⟨hj1, hj2⟩ := List.getElem?_eq_some_iff.mp hj
          have e0 : j - as.length = 0 := by
            have : j - as.length < 1 := hj1
            omega
          have ea : a = r := by
            rw [e0] at hj
            exact (Option.some.inj hj).symm
          rw [ea, upd_ne nrD, upd_same, rep_flat, rep_range]
          rfl
    · rintro H1 ⟨as, T⟩
      have hO1 : H1 t = some (.tup ts) := T.same _ _ ht
      -- each order
      refine ⟨_, rfl, t, ts, rfl, hO1, for_enumT (K := K) (a := t) (xs := ts) (fun i σ H' => (∃ x4 x5 x6 x7 x8 x9 x10 x11, σ = [some (.int p), some (.int h), some (.ref t), some (.ref D), x4, x5, x6, x7, x8, x9, x10, x11, none]) ∧ TabAt H H' D p h (cellV p (os.take i)) as)
        ⟨⟨_, _, _, _, _, _, _, _, rfl⟩, by exact T.congr fun s d _ _ => rfl⟩ (fun i σ H' ⟨_, T'⟩ => T'.same _ _ ht) ?_ ?_⟩
      · rintro i x σ H2 X hi ⟨⟨x4, x5, x6, x7, x8, x9, x10, x11, rfl⟩, T2⟩ nX
        have T3 := T2.keep (same_upd (o := HO.tup [.int (i : Nat), x]) nX)
        have hil : i < ts.length := (List.getElem?_eq_some_iff.mp hi).1
        have hlen := hP.length
        have hio : os[i]? = some (os[i]'(by omega)) := List.getElem?_eq_getElem (by omega)
        obtain ⟨x', hx', y, rfl, hy⟩ := Paired.get? (i := i) hP hio
        obtain rfl : V.ref y = x := Option.some.inj (hx'.symm.trans hi)
        generalize eo : os[i]'(by omega) = o at hio hy
        have hk : OdOk p h o := by rw [← eo]; exact N.ok _ (List.getElem_mem _)
        have k1 := hk.s; have k4 := hk.f; have k5 := hk.n1; have k6 := hk.n
        have hy3 := T3.same _ _ hy
        refine ⟨X, _, rfl, SqT.of upd_same, rfl, _, _, rfl, _, _, rfl, ⟨y, _, rfl, SqT.of hy3, rfl, _, _, rfl, _, _, rfl, _, _, rfl, _, _, rfl, _, _, rfl, rfl, rfl, ?_⟩⟩
        refine ⟨_, rfl, o.n, rfl, by omega, by omega, for_range (lo := 0) (n := (o.n : Int).toNat) (fun l σ H' => (∃ x10 x11, σ = [some (.int p), some (.int h), some (.ref t), some (.ref D), some (.int (i : Nat)), some (.int o.s), some (.int o.t), some (.int o.f), some (.int o.n), some (.int o.e), x10, x11, none]) ∧ TabAt H H' D p h (cellM p (os.take i) o i l) as)
          ⟨⟨_, _, rfl⟩, T3.congr fun s d _ _ => ?_⟩ ?_ ?_⟩
        · show optV (idx p (os.take i) s d) = optV ((idx p (os.take i) s d).or (if (decide (s = o.s) && false) = true then some i else none))
          rw [Bool.and_false, if_neg Bool.false_ne_true, Option.or_none]
        · rintro l σ H4 hl ⟨⟨x10, x11, rfl⟩, T4⟩
          have hl2 : l < o.n := by omega
          refine ⟨_, rfl, _, rfl, _, _, rfl, rfl, _, rfl, _, _, rfl, rfl, by omega, ?_⟩
          have ed : Int.fmod ((o.f : Int) + (0 + (l : Int))) (p : Int) = (((o.f + l) % p : Nat) : Int) := by
            rw [Int.zero_add]
            exact fmod_nat (o.f + l) p
          have hd : (o.f + l) % p < p := Nat.mod_lt _ (by omega)
          generalize hdd : (o.f + l) % p = dd at ed hd
          have hsl : o.s < as.length := by rw [T4.len]; exact k1
          have ha := List.getElem?_eq_getElem hsl
          generalize as[o.s] = a at ha
          have hmap : (as.map V.ref)[o.s]? = some (.ref a) := by rw [List.getElem?_map, ha]; rfl
          have hrow := T4.row _ _ ha
          have hcell : ((List.range p).map (cellM p (os.take i) o i l o.s))[dd]? = some (cellM p (os.take i) o i l o.s dd) := by
            rw [List.getElem?_map, List.getElem?_range hd]
            rfl
          show ∃ v, _
          refine ⟨_, rfl, _, rfl, D, _, _, _, rfl, rfl, SqL.of T4.flat, atI_nat hmap, ?_⟩
          refine ⟨_, rfl, a, _, (dd : Int), _, rfl, by rw [← ed], SqL.of hrow, atI_nat hcell, ?_⟩
          refine ⟨rfl, _, rfl, ite2 (fun e => ?_) (fun e => ?_)⟩
          · have en : cellM p (os.take i) o i l o.s dd = .non := of_decide_eq_true e
            refine ⟨_, rfl, _, rfl, _, rfl, D, _, _, _, rfl, rfl, SqL.of T4.flat, atI_nat hmap, ?_⟩
            refine ⟨_, rfl, a, _, (dd : Int), dd, rfl, by rw [← ed], hrow, ix_at (by rw [List.length_map, List.length_range]; exact hd), ?_⟩
            refine ⟨⟨_, _, rfl⟩, (T4.set ha).congr fun s d hs hd2 => ?_⟩
            subst hdd
            exact cellM_hit en
          · refine ⟨⟨_, _, rfl⟩, T4.congr fun s d hs hd2 => ?_⟩
            subst hdd
            exact cellM_miss (fun z => e (decide_eq_true z))
        · rintro σ H4 ⟨⟨x10, x11, rfl⟩, T4⟩
          exact ⟨⟨_, _, _, _, _, _, _, _, rfl⟩, T4.congr fun s d hs hd => cellM_end hk hio hd⟩
      · rintro σ H2 ⟨⟨x4, x5, x6, x7, x8, x9, x10, x11, rfl⟩, T2⟩
        refine ⟨_, rfl, q _ D as (T2.congr fun s d _ _ => ?_)⟩
        rw [List.take_of_length_le (by rw [← hP.length]; exact Nat.le_refl _)]
end
abbrev s_Net_init : Stmt := inClass (top 26) 0
abbrev N_Net_init : List Str := ["self", "period", "houses", "orders"]
abbrev P_Net_init : List Str := ["self", "period", "houses", "orders"]
theorem sc_Net_init : FnScope N_Net_init P_Net_init (defScope s_Net_init) := ⟨rfl, rfl, rfl, by decide +kernel, rfl, by decide +kernel, by decide +kernel⟩
/-! ### a net, made and read -/
def NetFs (p h : Nat) (t fl : Addr) : List (Str × V) := putF "followed" (.ref fl) (putF "orders" (.ref t) (putF "houses" (.int h) (putF "period" (.int p) [])))
theorem sFO : ¬ ("orders" : Str) = "followed" := by decide +kernel
theorem sFH : ¬ ("houses" : Str) = "followed" := by decide +kernel
theorem sFP : ¬ ("period" : Str) = "followed" := by decide +kernel
theorem sOH : ¬ ("houses" : Str) = "orders" := by decide +kernel
theorem sOP : ¬ ("period" : Str) = "orders" := by decide +kernel
theorem sHP : ¬ ("period" : Str) = "houses" := by decide +kernel
theorem nf_fl {p h : Nat} {t fl : Addr} : (NetFs p h t fl).lookup ("followed" : Str) = some (.ref fl) := by
  unfold NetFs
  rw [lookup_putF, if_pos rfl]
theorem nf_or {p h : Nat} {t fl : Addr} : (NetFs p h t fl).lookup ("orders" : Str) = some (.ref t) := by
  unfold NetFs
  rw [lookup_putF, if_neg sFO, lookup_putF, if_pos rfl]
theorem nf_ho {p h : Nat} {t fl : Addr} : (NetFs p h t fl).lookup ("houses" : Str) = some (.int h) := by
  unfold NetFs
  rw [lookup_putF, if_neg sFH, lookup_putF, if_neg sOH, lookup_putF, if_pos rfl]
theorem nf_pe {p h : Nat} {t fl : Addr} : (NetFs p h t fl).lookup ("period" : Str) = some (.int p) := by
  unfold NetFs
  rw [lookup_putF, if_neg sFP, lookup_putF, if_neg sOP, lookup_putF, if_neg sHP, lookup_putF, if_pos rfl]
theorem nf_no {p h : Nat} {t fl : Addr} {m : Str} (h1 : ¬ m = "followed") (h2 : ¬ m = "orders") (h3 : ¬ m = "houses") (h4 : ¬ m = "period") : (NetFs p h t fl).lookup m = none := by
  unfold NetFs
  rw [lookup_putF, if_neg h1, lookup_putF, if_neg h2, lookup_putF, if_neg h3, lookup_putF, if_neg h4]
  rfl
/-- what the class says -/
structure NetT (K : PySem.W.Frag) (C : Addr) : Prop where
  cl : Cls K C
  nP : NoAttr K C "period"
  nH : NoAttr K C "houses"
  nO : NoAttr K C "orders"
  nF : NoAttr K C "followed"
/-- a net of these parts at x; F: its own addresses -/
def NetAt (C : Addr) (H : Hp) (x : Addr) (p h : Nat) (os : List Od) (t : Addr) (F : List Addr) : Prop := ∃ dx fl as, F = x :: fl :: as ∧ H x = some (.ins C dx (NetFs p h t fl)) ∧ OrdsTup H t os ∧
  H fl = some (.lst (as.map V.ref)) ∧ as.length = h ∧ ∀ i a, as[i]? = some a → H a = some (.lst ((List.range p).map (cellV p os i)))
theorem NetAt.keep {C : Addr} {H H' : Hp} {x : Addr} {p h : Nat} {os : List Od} {t : Addr} {F : List Addr} (N : NetAt C H x p h os t F) (k : TupKeep H H') (kf : ∀ b ∈ F, ∀ o, H b = some o → H' b = some o) : NetAt C H' x p h os t F := by
  obtain ⟨dx, fl, as, rfl, h1, h2, h3, h4, h5⟩ := N
  refine ⟨dx, fl, as, rfl, kf _ (by simp) _ h1, h2.keep k, kf _ (by simp) _ h3, h4, fun i a hi => kf _ ?_ _ (h5 i a hi)⟩
  exact List.mem_cons_of_mem _ (List.mem_cons_of_mem _ (List.mem_of_getElem? hi))
theorem NetAt.same {C : Addr} {H H' : Hp} {x : Addr} {p h : Nat} {os : List Od} {t : Addr} {F : List Addr} (N : NetAt C H x p h os t F) (s : Same H H') : NetAt C H' x p h os t F := N.keep (tk_of s) fun b _ o e => s b o e
theorem NetAt.but {C : Addr} {H H' : Hp} {x : Addr} {p h : Nat} {os : List Od} {t d : Addr} {F : List Addr} (N : NetAt C H x p h os t F) (s : But d H H') (k : TupKeep H H') (n : d ∉ F) : NetAt C H' x p h os t F := N.keep k fun b hb o e => s b o (fun z => n (z ▸ hb)) e
theorem NetAt.new {C : Addr} {H : Hp} {x : Addr} {p h : Nat} {os : List Od} {t u : Addr} {F : List Addr} (N : NetAt C H x p h os t F) (n : H u = none) : u ∉ F := by
  obtain ⟨dx, fl, as, rfl, h1, h2, h3, h4, h5⟩ := N
  intro z
  rcases List.mem_cons.mp z with z | z
  · exact ne_of_none h1 n z.symm
  rcases List.mem_cons.mp z with z | z
  · exact ne_of_none h3 n z.symm
  obtain ⟨j, hj⟩ := List.getElem?_of_mem z
  exact ne_of_none (h5 j u hj) n rfl
def spInit (C : Addr) : Sp := fun vs H Q _ => ∃ (x dx t : Addr) (p h : Nat) (os : List Od) (H0 : Hp), vs = [.ref x, .int p, .int h, .ref t] ∧ NetOk p h os ∧ OrdsTup H t os ∧ Same H0 H ∧ H0 x = none ∧ H x = some (.ins C dx []) ∧
  ∀ H' F, Same H0 H' → (∀ b ∈ F, H0 b = none) → NetAt C H' x p h os t F → Q .non H'
section
variable {P : Program} {w : World} {K : PySem.W.Frag} {mg : Str → Option Value} {base : Heap}
theorem ok_init {f C : Addr} {fd : FuncData} (F : Fun K "__init__" "Net.__init__" s_Net_init f fd) (T : NetT K C) (DW : Df P w K mg base "is_within" 2 P_is_within (spWithin K)) (DC : Df P w K mg base "check_orders" 4 P_check_orders spChkOrders)
    (DF : Df P w K mg base "find_followed" 2 P_find_followed spFollowed) (hP : ∃ t, mg "LONGEST_PERIOD" = some (.int 30 t)) (hH : ∃ t, mg "MOST_HOUSES" = some (.int 10 t)) : FnOk P w K mg base CX0 5 f fd P_Net_init (spInit C) := by
  obtain ⟨fW, fdW, gW, kW, bW, GW⟩ := DW
  obtain ⟨fC, fdC, gC, kC, bC, GC⟩ := DC
  obtain ⟨fF, fdF, gF, kF, bF, GF⟩ := DF
  obtain ⟨tkP, hP⟩ := hP
  obtain ⟨tkH, hH⟩ := hH
  refine F.ok sc_Net_init (fun vs H Q E h => ?_) (fun cdv A outer s H vs Q E hr h => ?_)
  · obtain ⟨x, dx, t, p, h, os, H0, rfl, _⟩ := h
    rfl
  · obtain ⟨x, dx, t, p, h, os, H0, rfl, N, hO, s0, x0, hx, q⟩ := h
    have hr1 : Room 2 _ := hr.mono (by decide)
    refine ⟨_, pss_cons (ps_if (pt_not (pt_val (pe_call GW hr1 (by rfl) gW kW bW .nil pass0 (pa_cons (pv 1) (pa_cons pe_int (pa_cons (pe_glob (v := .int 30) rfl hP ⟨_, rfl⟩) pa_nil)))))) (pss_one ps_never) pss_nil)
      (pss_cons (ps_if (pt_not (pt_val (pe_call GW hr1 (by rfl) gW kW bW .nil pass0 (pa_cons (pv 2) (pa_cons pe_int (pa_cons (pe_glob (v := .int 10) rfl hH ⟨_, rfl⟩) pa_nil)))))) (pss_one ps_never) pss_nil)
      (pss_cons (ps_expr (pe_call GC hr (by rfl) gC kC bC .nil pass0 (pa_cons (pv 1) (pa_cons (pv 2) (pa_cons (pv 3) pa_nil)))))
      (pss_cons (ps_fld (pv 0) (pv 1) rfl) (pss_cons (ps_fld (pv 0) (pv 2) rfl) (pss_cons (ps_fld (pv 0) (pv 3) rfl)
      (pss_one (ps_fld (pv 0) (pe_call GF hr1 (by rfl) gF kF bF .nil pass0 (pa_cons (pv 1) (pa_cons (pv 2) (pa_cons (pv 3) pa_nil)))) rfl))))))), ?_⟩
    have w1 : withinB (.int p) 1 30 = true := within_nat (lo := 1) (hi := 30) N.p1 N.p30
    have w2 : withinB (.int h) 1 10 = true := within_nat (lo := 1) (hi := 10) N.h1 N.h10
    refine ⟨_, rfl, .int p, 1, 30, rfl, .int, _, rfl, ?_⟩
    rw [w1]
    refine iteF ⟨_, rfl, .int h, 1, 10, rfl, .int, _, rfl, ?_⟩
    rw [w2]
    refine iteF ⟨_, rfl, _, rfl, _, rfl, t, p, h, os, rfl, N, hO, fun H1 s1 => ?_⟩
    have hx1 := s1 _ _ hx
    have nt : t ≠ x := by
      obtain ⟨ts, ht, _⟩ := hO
      exact ne_of ht hx (by intro z; cases z)
    refine ⟨_, rfl, _, rfl, x, C, dx, [], rfl, hx1, T.cl, T.nP, (by show 0 < 1000; decide), ?_⟩
    refine ⟨_, rfl, _, rfl, x, C, dx, _, rfl, upd_same, T.cl, T.nH, (by show 1 < 1000; decide), ?_⟩
    refine ⟨_, rfl, _, rfl, x, C, dx, _, rfl, upd_same, T.cl, T.nO, ?_, ?_⟩
    · show (putF "houses" _ (putF "period" _ [])).length < 1000
      have : (putF "houses" (.int (h : Int)) (putF "period" (.int (p : Int)) [])).length ≤ 2 := by
        show (if ("period" : Str) = "houses" then _ else _ : List (Str × V)).length ≤ 2
        rw [if_neg sHP]
        exact Nat.le_refl _
      omega
    rw [upd_upd, upd_upd]
    refine ⟨_, rfl, _, rfl, _, rfl, t, p, h, os, rfl, N, ?_, fun H2 fl as TT => ?_⟩
    · refine hO.keep fun b xs e => ?_
      have e1 := s1 _ _ e
      rw [upd_ne (ne_of e1 hx1 (by intro z; cases z))]
      exact e1
    have hx2 := TT.same _ _ (upd_same (H := H1) (a := x))
    have hflx : fl ≠ x := fun z => by
      have q1 := TT.fl0
      rw [z, upd_same] at q1
      cases q1
    have hasx : ∀ a ∈ as, a ≠ x := fun a ha z => by
      have q1 := TT.new a ha
      rw [z, upd_same] at q1
      cases q1
    refine ⟨_, rfl, x, C, dx, _, rfl, hx2, T.cl, T.nF, ?_, ?_⟩
    · show (putF "orders" _ (putF "houses" _ (putF "period" _ []))).length < 1000
      have : (putF "orders" (.ref t) (putF "houses" (.int (h : Int)) (putF "period" (.int (p : Int)) []))).length ≤ 3 := by
        show (putF "orders" (V.ref t) (if ("period" : Str) = "houses" then _ else _ : List (Str × V))).length ≤ 3
        rw [if_neg sHP]
        show (if ("period" : Str) = "orders" then _ else _ :: (if ("houses" : Str) = "orders" then _ else _) : List (Str × V)).length ≤ 3
        rw [if_neg sOP, if_neg sOH]
        exact Nat.le_refl _
      omega
    have free : ∀ b, b ≠ x → (L2.upd H1 x (.ins C dx (putF "orders" (.ref t) (putF "houses" (.int (h : Int)) (putF "period" (.int (p : Int)) []))))) b = none → H0 b = none := fun b nb e => by
      rw [upd_ne nb] at e
      exact s0.free (s1.free e)
    refine q _ (x :: fl :: as) (fun b o e => ?_) (fun b hb => ?_) ⟨dx, fl, as, rfl, upd_same, ?_, ?_, TT.len, fun i a hi => ?_⟩
    · have nb : b ≠ x := ne_of_none e x0
      rw [upd_ne nb]
      refine TT.same _ _ ?_
      rw [upd_ne nb]
      exact s1 _ _ (s0 _ _ e)
    · rcases List.mem_cons.mp hb with z | z
      · rw [z]; exact x0
      rcases List.mem_cons.mp z with z | z
      · rw [z]; exact free fl hflx TT.fl0
      · exact free b (hasx b z) (TT.new b z)
    · refine hO.keep fun b xs e => ?_
      have e1 := s1 _ _ e
      have nb : b ≠ x := ne_of e1 hx1 (by intro z; cases z)
      rw [upd_ne nb]
      refine TT.same _ _ ?_
      rw [upd_ne nb]
      exact e1
    · rw [upd_ne hflx]
      exact TT.flat
    · rw [upd_ne (hasx a (List.mem_of_getElem? hi))]
      exact TT.row i a hi
end
/-! ### the table, read -/
/-- where the table is read: followed[a][d % period] -/
theorem cell_read {C : Addr} {H : Hp} {x t : Addr} {p h a : Nat} {os : List Od} {F : List Addr} (N : NetAt C H x p h os t F) (ha : a < h) (hp : 0 < p) (d : Nat) : ∃ dx fl rows ro row, H x = some (.ins C dx (NetFs p h t fl)) ∧ H fl = some (.lst rows) ∧ rows[a]? = some (.ref ro) ∧ H ro = some (.lst row) ∧
    row[d % p]? = some (optV (idx p os a (d : Int))) := by
  obtain ⟨dx, fl, as, _, hx, _, hfl, hlen, hr⟩ := N
  have hal : a < as.length := by omega
  have e := List.getElem?_eq_getElem hal
  refine ⟨dx, fl, _, as[a], _, hx, hfl, by rw [List.getElem?_map, e]; rfl, hr a _ e, ?_⟩
  rw [List.getElem?_map, List.getElem?_range (Nat.mod_lt _ hp)]
  show some (optV (idx p os a ((d % p : Nat) : Int))) = _
  rw [idx_nat]
/-! ### stops and what is still to come: plain -/
def StopAt (H : Hp) (v : V) (s : Nat × Nat) : Prop := ∃ u, v = .ref u ∧ H u = some (.tup [.int s.1, .int s.2])
theorem StopAt.keep {H H' : Hp} {v : V} {s : Nat × Nat} (k : TupKeep H H') (h : StopAt H v s) : StopAt H' v s := by
  obtain ⟨u, e, hu⟩ := h
  exact ⟨u, e, k _ _ hu⟩
theorem StopsAt.keep {H H' : Hp} {vs : List V} {l : List (Nat × Nat)} (k : TupKeep H H') (h : Paired (StopAt H) vs l) : Paired (StopAt H') vs l := Paired.mapP h fun _ _ q => q.keep k
/-- what is still to come from a stop (or none) -/
def rest (p : Nat) (os : List Od) (n : Nat) : Option (Nat × Nat) → List (Nat × Nat)
  | none => []
  | some s => way p os n s
theorem rest_succ (p : Nat) (os : List Od) (n : Nat) (s : Nat × Nat) : rest p os (n + 1) (some s) = s :: rest p os n (hop p os s) := by
  show way p os (n + 1) s = _
  unfold way
  cases hop p os s <;> rfl
theorem rest_zero (p : Nat) (os : List Od) (o : Option (Nat × Nat)) : rest p os 0 o = [] := by cases o <;> rfl
theorem hop_house {p h : Nat} {os : List Od} {s s' : Nat × Nat} (k : NetOk p h os) (e : hop p os s = some s') : s'.1 < h := by
  unfold hop at e
  cases q : idx p os s.1 (s.2 : Int) with
  | none =>
    rw [q] at e
    cases e
  | some j =>
    simp only [q] at e
    have hj := idx_lt q
    rw [List.getElem?_eq_getElem hj] at e
    rw [← Option.some.inj e]
    exact (k.ok _ (List.getElem_mem hj)).t
/-! ### ways: plain -/
theorem way_len (p : Nat) (os : List Od) : ∀ (n : Nat) (st : Nat × Nat), (way p os n st).length ≤ n
  | 0, _ => Nat.le_refl _
  | n + 1, st => by
    show (way p os (n + 1) st).length ≤ n + 1
    rw [show way p os (n + 1) st = rest p os (n + 1) (some st) from rfl, rest_succ]
    cases h : hop p os st with
    | none => exact Nat.succ_le_succ (Nat.zero_le _)
    | some s' => exact Nat.succ_le_succ (way_len p os n s')
theorem way_house {p h : Nat} {os : List Od} (k : NetOk p h os) : ∀ {n : Nat} {st : Nat × Nat}, st.1 < h → ∀ s ∈ way p os n st, s.1 < h
  | 0, _, _, _, hm => by cases hm
  | n + 1, st, h0, s, hm => by
    rw [show way p os (n + 1) st = rest p os (n + 1) (some st) from rfl, rest_succ] at hm
    rcases List.mem_cons.mp hm with e | hm
    · rw [e]; exact h0
    · cases q : hop p os st with
      | none => rw [q] at hm; cases hm
      | some s' =>
        rw [q] at hm
        exact way_house k (hop_house k q) s hm
/-- the i-th stop, by going on from it -/
theorem way_drop {p : Nat} {os : List Od} : ∀ {n i : Nat} {st s : Nat × Nat}, (way p os n st)[i]? = some s → (way p os n st).drop i = way p os (n - i) s
  | 0, _, _, _, h => by cases h
  | n + 1, 0, st, s, h => by
    have e : st = s := Option.some.inj h
    subst e
    rfl
  | n + 1, i + 1, st, s, h => by
    have e : way p os (n + 1) st = st :: rest p os n (hop p os st) := rest_succ p os n st
    rw [e] at h ⊢
    rw [List.getElem?_cons_succ] at h
    rw [List.drop_succ_cons, Nat.succ_sub_succ]
    cases q : hop p os st with
    | none => rw [q] at h; cases h
    | some s' =>
      rw [q] at h
      exact way_drop h
/-! ### a letter followed to its end -/
def plc (p : Nat) (s : Nat × Nat) : Nat × Nat := (s.1, s.2 % p)
/-- the stops up to the first that comes back to an earlier one's place, and that one's index -/
def fol (p : Nat) : List (Nat × Nat) → List (Nat × Nat) → List (Nat × Nat) × Option Nat
  | done, [] => (done, none)
  | done, s :: r => match done.findIdx? (fun t => decide (plc p t = plc p s)) with
    | some b => (done ++ [s], some b)
    | none => fol p (done ++ [s]) r
def folR (p h : Nat) (os : List Od) (st : Nat × Nat) : List (Nat × Nat) × Option Nat := fol p [] (way p os (h * p + 1) st)
def keyOf (p : Nat) (s : Nat × Nat) : List Key := [Sum.inl (s.1 : Int), Sum.inl ((s.2 % p : Nat) : Int)]
def kvsFrom (p : Nat) : Nat → List (Nat × Nat) → List (List Key × V)
  | _, [] => []
  | k, s :: r => (keyOf p s, .int (k : Nat)) :: kvsFrom p (k + 1) r
theorem keyOf_eq {p : Nat} {s t : Nat × Nat} : keyOf p t = keyOf p s ↔ plc p t = plc p s := by
  unfold keyOf plc
  constructor
  · intro h
    have h1 : (t.1 : Int) = s.1 := Sum.inl.inj (List.cons.inj h).1
    have h2 : ((t.2 % p : Nat) : Int) = ((s.2 % p : Nat) : Int) := Sum.inl.inj (List.cons.inj (List.cons.inj h).2).1
    exact Prod.ext (by show t.1 = s.1; omega) (by show t.2 % p = s.2 % p; omega)
  · intro h
    have h1 : t.1 = s.1 := (Prod.mk.inj h).1
    have h2 : t.2 % p = s.2 % p := (Prod.mk.inj h).2
    rw [h1, h2]
theorem kvs_val {p : Nat} {s : Nat × Nat} : ∀ (l : List (Nat × Nat)) (k : Nat), valV (kvsFrom p k l) (keyOf p s) = (l.findIdx? fun t => decide (plc p t = plc p s)).map fun i => V.int ((k + i : Nat) : Int)
  | [], _ => rfl
  | t :: r, k => by
    rw [List.findIdx?_cons]
    unfold kvsFrom valV
    rw [List.find?_cons]
    by_cases c : plc p t = plc p s
    · have c2 : keyOf p t = keyOf p s := keyOf_eq.mpr c
      simp only [c, c2, decide_true, if_true, Option.map_some]
      rfl
    · have c2 : ¬ keyOf p t = keyOf p s := fun z => c (keyOf_eq.mp z)
      simp only [c, c2, decide_false, Bool.false_eq_true, if_false]
      have ih := kvs_val (p := p) (s := s) r (k + 1)
      unfold valV at ih
      rw [ih, Option.map_map]
      congr 1
      funext i
      show V.int ((k + 1 + i : Nat) : Int) = V.int ((k + (i + 1) : Nat) : Int)
      rw [show k + 1 + i = k + (i + 1) by omega]
theorem kvs_len {p : Nat} : ∀ (l : List (Nat × Nat)) (k : Nat), (kvsFrom p k l).length = l.length
  | [], _ => rfl
  | _ :: r, k => by
    show (kvsFrom p (k + 1) r).length + 1 = r.length + 1
    rw [kvs_len r (k + 1)]
theorem kvs_snoc {p : Nat} {s : Nat × Nat} : ∀ (l : List (Nat × Nat)) (k : Nat), kvsFrom p k (l ++ [s]) = kvsFrom p k l ++ [(keyOf p s, .int ((k + l.length : Nat) : Int))]
  | [], _ => rfl
  | t :: r, k => by
    show (keyOf p t, V.int (k : Nat)) :: kvsFrom p (k + 1) (r ++ [s]) = _
    rw [kvs_snoc r (k + 1)]
    show _ = (keyOf p t, V.int (k : Nat)) :: (kvsFrom p (k + 1) r ++ [(keyOf p s, V.int ((k + (r.length + 1) : Nat) : Int))])
    rw [show k + 1 + r.length = k + (r.length + 1) by omega]
theorem putK_new {κ : Type} [DecidableEq κ] {kvs : List (κ × V)} {k : κ} {v : V} (h : valV kvs k = none) : putK kvs k v = kvs ++ [(k, v)] := by
  unfold putK
  have e : (kvs.any fun kv => decide (kv.1 = k)) = false := by
    unfold valV at h
    rw [Option.map_eq_none_iff, List.find?_eq_none] at h
    rw [List.any_eq_false]
    exact h
  rw [e, if_neg Bool.false_ne_true]
theorem pair_last {α β : Type} {F : α → β → Prop} {y : α} {s : β} : ∀ {xs : List α} {l : List β}, Paired F (xs ++ [y]) (l ++ [s]) → F y s
  | [], [], h => by cases h with | cons r _ => exact r
  | [], b :: l, h => by
    cases h with
    | cons _ t =>
      have := t.length
      simp at this
  | a :: xs, [], h => by
    cases h with
    | cons _ t =>
      have := t.length
      simp at this
  | a :: xs, b :: l, h => by
    cases h with
    | cons _ t => exact pair_last t
theorem pair_split {α β : Type} {F : α → β → Prop} {s : β} : ∀ {l : List β} {xs : List α}, Paired F xs (l ++ [s]) → ∃ ys v, xs = ys ++ [v] ∧ Paired F ys l ∧ F v s
  | [], _, h => by
    cases h with
    | cons r t =>
      cases t
      exact ⟨[], _, rfl, .nil, r⟩
  | b :: l, _, h => by
    cases h with
    | cons r t =>
      obtain ⟨ys, v, rfl, h1, h2⟩ := pair_split t
      exact ⟨_ :: ys, v, rfl, .cons r h1, h2⟩
/-- what follow gives: the stops' list, the index -/
def FolAt (H H' : Hp) (r : Addr) (res : List (Nat × Nat) × Option Nat) : Prop := ∃ sl vs, H r = none ∧ H' r = some (.tup [.ref sl, optV res.2]) ∧ H sl = none ∧ H' sl = some (.lst vs) ∧ Paired (StopAt H') vs res.1
/-! ### cuts -/
theorem cut_from {xs : List V} {n : Nat} : cutV xs (some (n : Int)) none = xs.drop n := by
  unfold cutV
  rw [HT.sIx_nat, HT.sIx_none]
  by_cases c : n ≤ xs.length
  · rw [Nat.min_eq_left c, List.take_of_length_le (by rw [List.length_drop]; exact Nat.le_refl _)]
  · rw [Nat.min_eq_right (by omega), Nat.sub_self, List.take_zero, List.drop_eq_nil_iff.mpr (by omega)]
theorem cut_to {xs : List V} {n : Nat} : cutV xs none (some (n : Int)) = xs.take n := by
  unfold cutV
  rw [HT.sIx_none, HT.sIx_nat, List.drop_zero, Nat.sub_zero]
  by_cases c : n ≤ xs.length
  · rw [Nat.min_eq_left c]
  · rw [Nat.min_eq_right (by omega), List.take_of_length_le (Nat.le_refl _), List.take_of_length_le (by omega)]
/-! ### stops followed: plain mathematics -/
theorem fol_ne {p : Nat} : ∀ (l d : List (Nat × Nat)), (d ≠ [] ∨ l ≠ []) → (fol p d l).1 ≠ []
  | [], d, h => by
    rcases h with h | h
    · exact h
    · exact absurd rfl h
  | s :: r, d, _ => by
    unfold fol
    cases (d.findIdx? fun t => decide (plc p t = plc p s)) with
    | some b => simp
    | none => exact fol_ne r (d ++ [s]) (.inl (by simp))
theorem fol_len {p : Nat} : ∀ (l d : List (Nat × Nat)), (fol p d l).1.length ≤ d.length + l.length
  | [], d => by
    show d.length ≤ _
    omega
  | s :: r, d => by
    unfold fol
    cases (d.findIdx? fun t => decide (plc p t = plc p s)) with
    | some b =>
      show (d ++ [s]).length ≤ _
      rw [List.length_append, List.length_singleton, List.length_cons]
      omega
    | none =>
      have := fol_len (p := p) r (d ++ [s])
      rw [List.length_append, List.length_singleton] at this
      rw [List.length_cons]
      show (fol p (d ++ [s]) r).1.length ≤ _
      omega
theorem folR_ne {p h : Nat} {os : List Od} {st : Nat × Nat} : (folR p h os st).1 ≠ [] := by
  unfold folR
  refine fol_ne _ _ (.inr ?_)
  show way p os (h * p + 1) st ≠ []
  rw [show way p os (h * p + 1) st = rest p os (h * p + 1) (some st) from rfl, rest_succ]
  exact List.cons_ne_nil _ _
theorem folR_len {p h : Nat} {os : List Od} {st : Nat × Nat} : (folR p h os st).1.length ≤ h * p + 1 := by
  have h1 := fol_len (p := p) (way p os (h * p + 1) st) []
  have h2 := way_len p os (h * p + 1) st
  unfold folR
  simp only [List.length_nil, Nat.zero_add] at h1
  exact Nat.le_trans h1 h2
theorem small301 {p h : Nat} {os : List Od} (k : NetOk p h os) : h * p + 1 ≤ 301 := by
  have : h * p ≤ 10 * 30 := Nat.mul_le_mul k.h10 k.p30
  omega
theorem optV_isN {o : Option Nat} : decide (optV o = .non) = o.isNone := by cases o <;> rfl
theorem pair_drop {α β : Type} {F : α → β → Prop} {xs : List α} {l : List β} (h : Paired F xs l) : ∀ n, Paired F (xs.drop n) (l.drop n) := by
  induction h with
  | nil =>
    intro n
    rw [List.drop_nil, List.drop_nil]
    exact .nil
  | cons r t ih =>
    intro n
    cases n with
    | zero => exact .cons r t
    | succ n => exact ih n
theorem nodup_bound : ∀ (n : Nat) (l : List Nat), l.Nodup → (∀ x ∈ l, x < n) → l.length ≤ n
  | 0, [], _, _ => Nat.le_refl _
  | 0, x :: l, _, h => absurd (h x List.mem_cons_self) (Nat.not_lt_zero _)
  | n + 1, l, nd, h => by
    by_cases c : n ∈ l
    · have h1 : (l.erase n).length ≤ n := nodup_bound n (l.erase n) (nd.erase n) fun x hx => by
        have h2 := (List.Nodup.mem_erase_iff nd).mp hx
        have h3 := h x h2.2
        have h4 : x ≠ n := h2.1
        omega
      have h2 := List.length_erase_of_mem c
      omega
    · have h1 : l.length ≤ n := nodup_bound n l nd fun x hx => by
        have h3 := h x hx
        have h4 : x ≠ n := fun e => c (e ▸ hx)
        omega
      omega
/-- stops at different places are few -/
theorem places_bound {p h : Nat} {l : List (Nat × Nat)} (hp : 0 < p) (hh : ∀ s ∈ l, s.1 < h) (nd : (l.map (plc p)).Nodup) : l.length ≤ h * p := by
  have e : (l.map fun s => s.1 * p + s.2 % p).length = l.length := List.length_map _
  rw [← e]
  refine nodup_bound (h * p) _ ?_ ?_
  · have e2 : (l.map fun s => s.1 * p + s.2 % p) = (l.map (plc p)).map fun s => s.1 * p + s.2 := by
      rw [List.map_map]
      rfl
    rw [e2]
    have lt : ∀ s ∈ l.map (plc p), s.2 < p := fun s hs => by
      obtain ⟨t, _, rfl⟩ := List.mem_map.mp hs
      exact Nat.mod_lt _ hp
    generalize l.map (plc p) = ps at nd lt
    clear e e2 hh
    induction ps with
    | nil => exact List.nodup_nil
    | cons s r ih =>
      rw [List.nodup_cons] at nd
      rw [List.map_cons, List.nodup_cons]
      refine ⟨fun hm => ?_, ih nd.2 fun t ht => lt t (List.mem_cons_of_mem _ ht)⟩
      obtain ⟨t, ht, et⟩ := List.mem_map.mp hm
      have l1 := lt s List.mem_cons_self
      have l2 := lt t (List.mem_cons_of_mem _ ht)
      have q1 : t.1 = s.1 := by
        have a1 : (t.1 * p + t.2) / p = (s.1 * p + s.2) / p := by rw [et]
        rw [Nat.mul_comm t.1, Nat.mul_comm s.1, Nat.mul_add_div hp, Nat.mul_add_div hp, Nat.div_eq_of_lt l1, Nat.div_eq_of_lt l2] at a1
        omega
      have q2 : t.2 = s.2 := by
        rw [q1] at et
        omega
      exact nd.1 (by rw [show s = t from Prod.ext q1.symm q2.symm]; exact ht)
  · intro x hx
    obtain ⟨s, hs, rfl⟩ := List.mem_map.mp hx
    have h1 := hh s hs
    have h2 : s.2 % p < p := Nat.mod_lt _ hp
    calc s.1 * p + s.2 % p < s.1 * p + p := by omega
      _ = (s.1 + 1) * p := by rw [Nat.add_mul, Nat.one_mul]
      _ ≤ h * p := Nat.mul_le_mul_right _ h1
/-- how a way goes on behind its i-th stop -/
theorem way_next {p : Nat} {os : List Od} {n i : Nat} {st c : Nat × Nat} (hc : (way p os n st)[i]? = some c) (hi : i + 1 < n) : (way p os n st).drop (i + 1) = rest p os (n - (i + 1)) (hop p os c) := by
  have h := way_drop hc
  have e : n - i = (n - (i + 1)) + 1 := by omega
  rw [e, show way p os (n - (i + 1) + 1) c = rest p os (n - (i + 1) + 1) (some c) from rfl, rest_succ] at h
  have := congrArg (List.drop 1) h
  rw [List.drop_drop] at this
  exact this
/-- destination's answer -/
def destOf (res : List (Nat × Nat) × Option Nat) : Option (Nat × Nat) := match res.2 with
  | some _ => none
  | none => res.1.getLast?
def OptStop (H' : Hp) (v : V) : Option (Nat × Nat) → Prop
  | none => v = .non
  | some s => StopAt H' v s
/-! ### where a letter is: plain mathematics -/
/-- the i-th stop of a letter's way -/
def stp (p : Nat) (os : List Od) : Nat → Nat × Nat → Option (Nat × Nat)
  | 0, st => some st
  | n + 1, st => (stp p os n st).bind (hop p os)
theorem way_get {p : Nat} {os : List Od} {n : Nat} {st : Nat × Nat} : ∀ {i : Nat}, i < n → (way p os n st)[i]? = stp p os i st
  | 0, h => by
    obtain ⟨n, rfl⟩ : ∃ m, n = m + 1 := ⟨n - 1, by omega⟩
    rw [show way p os (n + 1) st = rest p os (n + 1) (some st) from rfl, rest_succ]
    rfl
  | i + 1, h => by
    have ih := way_get (p := p) (os := os) (n := n) (st := st) (i := i) (by omega)
    show _ = (stp p os i st).bind (hop p os)
    cases q : (way p os n st)[i]? with
    | none =>
      rw [← ih, q]
      rw [List.getElem?_eq_none_iff] at q
      exact List.getElem?_eq_none_iff.mpr (by omega)
    | some c =>
      rw [← ih, q]
      have e := way_next q h
      have e2 := congrArg (fun l => l[0]?) e
      simp only [List.getElem?_drop, Nat.add_zero] at e2
      rw [e2]
      obtain ⟨k, hk⟩ : ∃ k, n - (i + 1) = k + 1 := ⟨n - (i + 1) - 1, by omega⟩
      rw [hk]
      show (rest p os (k + 1) (hop p os c))[0]? = hop p os c
      cases hop p os c with
      | none => rfl
      | some s =>
        rw [rest_succ]
        rfl
theorem stp_add {p : Nat} {os : List Od} {i : Nat} {st : Nat × Nat} : ∀ {j : Nat}, stp p os (i + j) st = (stp p os i st).bind (stp p os j)
  | 0 => by
    show stp p os i st = _
    cases stp p os i st <;> rfl
  | j + 1 => by
    show (stp p os (i + j) st).bind (hop p os) = _
    rw [stp_add]
    cases stp p os i st <;> rfl
theorem hop_more {p h : Nat} {os : List Od} {c s : Nat × Nat} (k : NetOk p h os) (e : hop p os c = some s) : c.2 < s.2 := by
  unfold hop at e
  cases q : idx p os c.1 (c.2 : Int) with
  | none =>
    rw [q] at e
    cases e
  | some j =>
    simp only [q] at e
    have hj := idx_lt q
    rw [List.getElem?_eq_getElem hj] at e
    rw [← Option.some.inj e]
    have := (k.ok _ (List.getElem_mem hj)).e1
    show c.2 < c.2 + _
    omega
theorem stp_more {p h : Nat} {os : List Od} {i : Nat} {st a : Nat × Nat} (ok : NetOk p h os) (ha : stp p os i st = some a) : ∀ {k : Nat}, ∀ {b}, stp p os (i + (k + 1)) st = some b → a.2 < b.2
  | 0, b, hb => by
    have e : (stp p os i st).bind (hop p os) = some b := hb
    rw [ha] at e
    exact hop_more ok e
  | k + 1, b, hb => by
    have e : (stp p os (i + (k + 1)) st).bind (hop p os) = some b := hb
    cases q : stp p os (i + (k + 1)) st with
    | none =>
      rw [q] at e
      cases e
    | some c =>
      rw [q] at e
      have h1 := stp_more ok ha (k := k) q
      have h2 := hop_more ok e
      omega
/-- the letter's last stop up to the day x: it is c, the j-th -/
def LastAt (p : Nat) (os : List Od) (st : Nat × Nat) (x : Nat) (c : Nat × Nat) (j : Nat) : Prop :=
  stp p os j st = some c ∧ c.2 ≤ x ∧ ∀ s, hop p os c = some s → x < s.2
theorem LastAt.uniq {p h : Nat} {os : List Od} {st c c' : Nat × Nat} {x j j' : Nat} (ok : NetOk p h os) (a : LastAt p os st x c j) (b : LastAt p os st x c' j') : c = c' ∧ j = j' := by
  obtain ⟨a1, a2, a3⟩ := a
  obtain ⟨b1, b2, b3⟩ := b
  have key : ∀ {c c' : Nat × Nat} {j j' : Nat}, stp p os j st = some c → (∀ s, hop p os c = some s → x < s.2) → stp p os j' st = some c' → c'.2 ≤ x → j < j' → False := by
    intro c c' j j' h1 h2 h3 h4 lt
    obtain ⟨k, rfl⟩ : ∃ k, j' = (j + 1) + k := ⟨j' - (j + 1), by omega⟩
    have e0 : stp p os (j + 1) st = hop p os c := by
      show (stp p os j st).bind (hop p os) = _
      rw [h1]
      rfl
    cases q : hop p os c with
    | none =>
      rw [stp_add, e0, q] at h3
      cases h3
    | some s =>
      have h5 := h2 s q
      cases k with
      | zero =>
        rw [Nat.add_zero, e0, q] at h3
        rw [← Option.some.inj h3] at h4
        omega
      | succ k =>
        have h6 := stp_more ok (e0.trans q) h3
        omega
  by_cases e : j = j'
  · subst e
    exact ⟨Option.some.inj (a1.symm.trans b1), rfl⟩
  · rcases Nat.lt_or_gt_of_ne e with lt | lt
    · exact (key a1 a3 b1 b2 lt).elim
    · exact (key b1 b3 a1 a2 lt).elim
/-- later by D days, a multiple of the period -/
def shf (D : Nat) (s : Nat × Nat) : Nat × Nat := (s.1, s.2 + D)
theorem hop_shf {p : Nat} {os : List Od} {k : Nat} (s : Nat × Nat) : hop p os (shf (p * k) s) = (hop p os s).map (shf (p * k)) := by
  unfold hop shf
  show (match idx p os s.1 ((s.2 + p * k : Nat) : Int) with | none => none | some j => (os[j]?).map fun o : Od => (o.t, s.2 + p * k + o.e)) = _
  rw [idx_later]
  cases idx p os s.1 (s.2 : Int) with
  | none => rfl
  | some j =>
    show (os[j]?).map _ = ((os[j]?).map _).map _
    rw [Option.map_map]
    congr 1
    funext o
    show (o.t, s.2 + p * k + o.e) = (o.t, s.2 + o.e + p * k)
    rw [show s.2 + p * k + o.e = s.2 + o.e + p * k by omega]
theorem stp_shf {p : Nat} {os : List Od} {k : Nat} (s : Nat × Nat) : ∀ j, stp p os j (shf (p * k) s) = (stp p os j s).map (shf (p * k))
  | 0 => rfl
  | j + 1 => by
    show (stp p os j (shf (p * k) s)).bind (hop p os) = ((stp p os j s).bind (hop p os)).map _
    rw [stp_shf s j]
    cases stp p os j s with
    | none => rfl
    | some c => exact hop_shf c
/-- round after round -/
theorem stp_round {p : Nat} {os : List Od} {b N D k0 : Nat} {st t : Nat × Nat} (hD : D = p * k0) (h1 : stp p os b st = some t) (h2 : stp p os (b + N) st = some (shf D t)) : ∀ (r i : Nat), stp p os (b + i + N * r) st = (stp p os (b + i) st).map (shf (D * r))
  | 0, i => by
    rw [Nat.mul_zero, Nat.mul_zero, Nat.add_zero]
    cases stp p os (b + i) st <;> rfl
  | r + 1, i => by
    have one : ∀ j, stp p os (b + N + j) st = (stp p os (b + j) st).map (shf D) := by
      intro j
      rw [stp_add, h2]
      show stp p os j (shf D t) = _
      rw [stp_add (i := b), h1, hD, stp_shf]
      rfl
    have e : b + i + N * (r + 1) = b + N + (i + N * r) := by
      rw [Nat.mul_add, Nat.mul_one]
      omega
    rw [e, one, show b + (i + N * r) = b + i + N * r by omega, stp_round hD h1 h2 r i, Option.map_map]
    congr 1
    funext s
    show (s.1, s.2 + D * r + D) = (s.1, s.2 + D * (r + 1))
    rw [Nat.mul_add, Nat.mul_one, Nat.add_assoc]
/-- what fol says -/
theorem fol_spec {p : Nat} : ∀ (r d : List (Nat × Nat)), (d.map (plc p)).Nodup →
    (fol p d r = (d ++ r, none) ∧ ((d ++ r).map (plc p)).Nodup) ∨ ∃ m s b t r', d ++ r = m ++ s :: r' ∧ fol p d r = (m ++ [s], some b) ∧ m[b]? = some t ∧ plc p t = plc p s ∧ (m.map (plc p)).Nodup
  | [], d, nd => .inl ⟨by rw [List.append_nil]; rfl, by rw [List.append_nil]; exact nd⟩
  | s :: r, d, nd => by
    unfold fol
    cases q : d.findIdx? (fun t => decide (plc p t = plc p s)) with
    | some b =>
      obtain ⟨hb, hb2, _⟩ := List.findIdx?_eq_some_iff_getElem.mp q
      exact .inr ⟨d, s, b, d[b], r, rfl, rfl, List.getElem?_eq_getElem hb, of_decide_eq_true hb2, nd⟩
    | none =>
      have nd2 : ((d ++ [s]).map (plc p)).Nodup := by
        rw [List.map_append, List.nodup_append]
        refine ⟨nd, by simp, fun x hx y hy => ?_⟩
        rw [List.map_cons, List.map_nil, List.mem_singleton] at hy
        rw [hy]
        intro e
        obtain ⟨t, ht, et⟩ := List.mem_map.mp hx
        have := List.findIdx?_eq_none_iff.mp q t ht
        exact Bool.false_ne_true (this.symm.trans (decide_eq_true (et.trans e)))
      have ih := fol_spec r (d ++ [s]) nd2
      rw [List.append_assoc] at ih
      exact ih
/-- a letter that is delivered, or chases: by its stops -/
theorem folR_cases {p h : Nat} {os : List Od} {st : Nat × Nat} (ok : NetOk p h os) (hh : st.1 < h) :
    (∃ l, folR p h os st = (l, none) ∧ l ≠ [] ∧ (∀ i, l[i]? = stp p os i st) ∧ (l.map (plc p)).Nodup) ∨
    (∃ m s b t k, folR p h os st = (m ++ [s], some b) ∧ (∀ i, i ≤ m.length → (m ++ [s])[i]? = stp p os i st) ∧ m[b]? = some t ∧ s = shf (p * k) t ∧ 0 < p * k ∧ (m.map (plc p)).Nodup) := by
  have hp : 0 < p := ok.p1
  have hlen := way_len p os (h * p + 1) st
  have hget : ∀ {i}, i < h * p + 1 → (way p os (h * p + 1) st)[i]? = stp p os i st := fun hi => way_get hi
  have hho := way_house (n := h * p + 1) ok hh
  have hne : way p os (h * p + 1) st ≠ [] := by
    rw [show way p os (h * p + 1) st = rest p os (h * p + 1) (some st) from rfl, rest_succ]
    exact List.cons_ne_nil _ _
  unfold folR
  generalize way p os (h * p + 1) st = L at hlen hget hho hne
  rcases fol_spec (p := p) L [] List.nodup_nil with ⟨e, nd⟩ | ⟨m, s, b, t, r', e1, e2, e3, e4, nd⟩
  · rw [List.nil_append] at e nd
    refine .inl ⟨L, e, hne, fun i => ?_, nd⟩
    have hb := places_bound hp hho nd
    by_cases c : i < h * p + 1
    · exact hget c
    · have e1 : stp p os L.length st = none := by
        rw [← hget (by omega)]
        exact List.getElem?_eq_none_iff.mpr (Nat.le_refl _)
      have e2 : i = L.length + (i - L.length) := by omega
      rw [e2, stp_add, e1]
      exact List.getElem?_eq_none_iff.mpr (by omega)
  · rw [List.nil_append] at e1
    have hml : m.length < L.length := by
      rw [e1, List.length_append, List.length_cons]
      omega
    have hg : ∀ i, i ≤ m.length → (m ++ [s])[i]? = stp p os i st := fun i hi => by
      rw [← hget (by omega), e1]
      by_cases c : i < m.length
      · rw [List.getElem?_append_left c, List.getElem?_append_left c]
      · obtain rfl : i = m.length := by omega
        rw [List.getElem?_append_right (Nat.le_refl _), List.getElem?_append_right (Nat.le_refl _), Nat.sub_self]
        rfl
    have hbl : b < m.length := (List.getElem?_eq_some_iff.mp e3).1
    have g1 : stp p os b st = some t := by
      rw [← hg b (by omega), List.getElem?_append_left hbl]
      exact e3
    have g2 : stp p os (b + (m.length - b - 1 + 1)) st = some s := by
      rw [show b + (m.length - b - 1 + 1) = m.length by omega, ← hg _ (Nat.le_refl _), List.getElem?_append_right (Nat.le_refl _), Nat.sub_self]
      rfl
    have lt := stp_more (b := s) ok g1 g2
    have h1 : t.1 = s.1 := (Prod.mk.inj e4).1
    have h2 : t.2 % p = s.2 % p := (Prod.mk.inj e4).2
    have hk : s.2 = t.2 + p * (s.2 / p - t.2 / p) := by
      have a1 := Nat.div_add_mod s.2 p
      have a2 := Nat.div_add_mod t.2 p
      have a3 : t.2 / p ≤ s.2 / p := Nat.div_le_div_right (Nat.le_of_lt lt)
      rw [Nat.mul_sub]
      have a4 : p * (t.2 / p) ≤ p * (s.2 / p) := Nat.mul_le_mul_left _ a3
      omega
    refine .inr ⟨m, s, b, t, s.2 / p - t.2 / p, e2, hg, e3, ?_, by omega, nd⟩
    exact Prod.ext h1.symm hk
/-- of an increasing list, those up to a day are its beginning -/
theorem upto {sk x : Nat} : ∀ {l : List (Nat × Nat)}, l.Pairwise (fun a b => a.2 < b.2) → l.filter (fun s => decide (s.2 + sk ≤ x)) = l.take (l.filter fun s => decide (s.2 + sk ≤ x)).length ∧ ∀ s ∈ l.drop (l.filter fun s => decide (s.2 + sk ≤ x)).length, x < s.2 + sk
  | [], _ => ⟨rfl, fun s h => by cases h⟩
  | s :: r, hp => by
    rw [List.pairwise_cons] at hp
    obtain ⟨h1, h2⟩ := upto (sk := sk) (x := x) hp.2
    by_cases c : s.2 + sk ≤ x
    · have e : (s :: r).filter (fun s => decide (s.2 + sk ≤ x)) = s :: r.filter (fun s => decide (s.2 + sk ≤ x)) := List.filter_cons_of_pos (p := fun s : Nat × Nat => decide (s.2 + sk ≤ x)) (decide_eq_true c)
      rw [e, List.length_cons, List.take_succ_cons, List.drop_succ_cons]
      refine ⟨?_, h2⟩
      rw [← h1]
    · have hn : ∀ t ∈ s :: r, x < t.2 + sk := fun t ht => by
        rcases List.mem_cons.mp ht with e | e
        · rw [e]; omega
        · have := hp.1 t e
          omega
      have e0 : (s :: r).filter (fun s => decide (s.2 + sk ≤ x)) = [] := List.filter_eq_nil_iff.mpr fun t ht z => by
        have := hn t ht
        have := of_decide_eq_true z
        omega
      rw [e0]
      exact ⟨rfl, fun t ht => hn t ht⟩
theorem stp_pair {p h : Nat} {os : List Od} {st : Nat × Nat} {l : List (Nat × Nat)} (ok : NetOk p h os) (hl : ∀ i, i < l.length → l[i]? = stp p os i st) : l.Pairwise fun a b => a.2 < b.2 := by
  rw [List.pairwise_iff_getElem]
  intro i j hi hj lt
  have e1 := hl i hi
  have e2 := hl j hj
  rw [List.getElem?_eq_getElem hi] at e1
  rw [List.getElem?_eq_getElem hj] at e2
  obtain ⟨k, rfl⟩ : ∃ k, j = i + (k + 1) := ⟨j - i - 1, by omega⟩
  exact stp_more (b := l[i + (k + 1)]) ok e1.symm e2.symm
def cnt (l : List (Nat × Nat)) (x : Nat) : Nat := (l.filter fun s => decide (s.2 ≤ x)).length
/-- days and hops that a chasing letter has behind it in whole rounds, up to the day x -/
def skips (res : List (Nat × Nat) × Option Nat) (x : Nat) : Nat × Nat := match res.2 with
  | none => (0, 0)
  | some b => match res.1[b]?, res.1.getLast? with
    | some t, some s => if t.2 ≤ x then ((x - t.2) / (s.2 - t.2) * (s.2 - t.2), (x - t.2) / (s.2 - t.2) * (res.1.length - 1 - b)) else (0, 0)
    | _, _ => (0, 0)
def cntS (l : List (Nat × Nat)) (sk x : Nat) : Nat := (l.filter fun s => decide (s.2 + sk ≤ x)).length
theorem cntS_spec {p h : Nat} {os : List Od} {st : Nat × Nat} {l : List (Nat × Nat)} {sk x : Nat} (ok : NetOk p h os) (hl : ∀ i, i < l.length → l[i]? = stp p os i st) :
    cntS l sk x ≤ l.length ∧ (∀ i s, i < cntS l sk x → l[i]? = some s → s.2 + sk ≤ x) ∧ ∀ i s, cntS l sk x ≤ i → l[i]? = some s → x < s.2 + sk := by
  obtain ⟨h1, h2⟩ := upto (sk := sk) (x := x) (stp_pair ok hl)
  have hc : cntS l sk x ≤ l.length := List.length_filter_le _ _
  refine ⟨hc, fun i s hi e => ?_, fun i s hi e => ?_⟩
  · have m : s ∈ l.filter fun s => decide (s.2 + sk ≤ x) := by
      rw [h1]
      refine List.mem_of_getElem? (i := i) ?_
      show (l.take (cntS l sk x))[i]? = some s
      rw [List.getElem?_take_of_lt hi]
      exact e
    exact of_decide_eq_true (List.mem_filter.mp m).2
  · refine h2 s (List.mem_of_getElem? (i := i - cntS l sk x) ?_)
    show (l.drop (cntS l sk x))[i - cntS l sk x]? = some s
    rw [List.getElem?_drop, show cntS l sk x + (i - cntS l sk x) = i by omega]
    exact e
/-- the last stop, as it is computed from what follow says -/
theorem last_of {p h : Nat} {os : List Od} {st : Nat × Nat} {x : Nat} (ok : NetOk p h os) (hh : st.1 < h) (hx : st.2 ≤ x) :
    ∃ c s, cntS (folR p h os st).1 (skips (folR p h os st) x).1 x = c + 1 ∧ (folR p h os st).1[c]? = some s ∧ LastAt p os st x (shf (skips (folR p h os st) x).1 s) (c + (skips (folR p h os st) x).2) ∧
      ((folR p h os st).2.isSome = true → c + 1 < (folR p h os st).1.length) := by
  rcases folR_cases ok hh with ⟨l, e, hne, hl, _⟩ | ⟨m, s, b, t, k, e, hl, hb, hs, hk, _⟩
  · rw [e]
    show ∃ c s, cntS l 0 x = c + 1 ∧ l[c]? = some s ∧ LastAt p os st x (shf 0 s) (c + 0) ∧ (Option.isSome (none : Option Nat) = true → c + 1 < l.length)
    obtain ⟨c1, c2, c3⟩ := cntS_spec (sk := 0) (x := x) ok fun i _ => hl i
    have h0 : l[0]? = some st := hl 0
    have pos : 0 < cntS l 0 x := by
      refine Nat.pos_of_ne_zero fun z => ?_
      have := c3 0 st (by omega) h0
      omega
    obtain ⟨c, hc⟩ : ∃ c, cntS l 0 x = c + 1 := ⟨cntS l 0 x - 1, by omega⟩
    have hcl : c < l.length := by omega
    have hc' := List.getElem?_eq_getElem hcl
    refine ⟨c, l[c], hc, hc', ⟨?_, c2 c _ (by omega) hc', fun s hs => ?_⟩, fun z => by cases z⟩
    · rw [Nat.add_zero, ← hl c]
      exact hc'
    · have e1 : l[c + 1]? = some s := by
        rw [hl (c + 1)]
        show (stp p os c st).bind (hop p os) = _
        rw [← hl c, hc']
        exact hs
      have := c3 (c + 1) s (by omega) e1
      omega
  · rw [e]
    have hbl : b < m.length := (List.getElem?_eq_some_iff.mp hb).1
    have hl' : ∀ i, i < (m ++ [s]).length → (m ++ [s])[i]? = stp p os i st := fun i hi => hl i (by rw [List.length_append, List.length_singleton] at hi; omega)
    have g1 : (m ++ [s])[b]? = some t := by rw [List.getElem?_append_left hbl]; exact hb
    have g2 : (m ++ [s])[m.length]? = some s := by
      rw [List.getElem?_append_right (Nat.le_refl _), Nat.sub_self]
      rfl
    have w1 : stp p os b st = some t := by rw [← hl b (by omega)]; exact g1
    have w2 : stp p os (b + (m.length - b)) st = some (shf (p * k) t) := by
      rw [show b + (m.length - b) = m.length by omega, ← hl _ (Nat.le_refl _), ← hs]
      exact g2
    have hD : s.2 - t.2 = p * k := by
      rw [hs]
      show t.2 + p * k - t.2 = _
      omega
    have esk : skips (m ++ [s], some b) x = if t.2 ≤ x then ((x - t.2) / (p * k) * (p * k), (x - t.2) / (p * k) * (m.length - b)) else (0, 0) := by
      unfold skips
      simp only [g1, List.getLast?_concat, hD]
      rw [List.length_append, List.length_singleton, Nat.add_sub_cancel]
    rw [esk]
    by_cases c : t.2 ≤ x
    · rw [if_pos c]
      generalize hr : (x - t.2) / (p * k) = r
      have q1 := Nat.div_add_mod (x - t.2) (p * k)
      have q2 := Nat.mod_lt (x - t.2) hk
      rw [hr] at q1
      have q3 : p * k * r = r * (p * k) := Nat.mul_comm _ _
      show ∃ c z, cntS (m ++ [s]) (r * (p * k)) x = c + 1 ∧ (m ++ [s])[c]? = some z ∧ LastAt p os st x (shf (r * (p * k)) z) (c + r * (m.length - b)) ∧ (Option.isSome (some b) = true → c + 1 < (m ++ [s]).length)
      obtain ⟨c1, c2, c3⟩ := cntS_spec (sk := r * (p * k)) (x := x) ok hl'
      have lo : b < cntS (m ++ [s]) (r * (p * k)) x := by
        refine Nat.lt_of_not_le fun z => ?_
        have := c3 b t z g1
        omega
      have hi : cntS (m ++ [s]) (r * (p * k)) x ≤ m.length := by
        refine Nat.le_of_not_lt fun z => ?_
        have := c2 m.length s z g2
        have e0 : s.2 = t.2 + p * k := by rw [hs]; rfl
        omega
      obtain ⟨c, hc⟩ : ∃ c, cntS (m ++ [s]) (r * (p * k)) x = c + 1 := ⟨cntS (m ++ [s]) (r * (p * k)) x - 1, by omega⟩
      have hcl : c < (m ++ [s]).length := by rw [List.length_append, List.length_singleton]; omega
      have hc' := List.getElem?_eq_getElem hcl
      have round := stp_round (D := p * k) (k0 := k) rfl w1 w2 r
      have sc : stp p os (c + r * (m.length - b)) st = some (shf (r * (p * k)) ((m ++ [s])[c])) := by
        have e1 := round (c - b)
        rw [show b + (c - b) = c by omega, Nat.mul_comm (m.length - b) r, ← hl c (by omega), hc', Nat.mul_comm (p * k) r] at e1
        exact e1
      refine ⟨c, (m ++ [s])[c], hc, hc', ⟨sc, c2 c _ (by omega) hc', fun z hz => ?_⟩, fun _ => by rw [List.length_append, List.length_singleton]; omega⟩
      have hcl2 : c + 1 < (m ++ [s]).length := by rw [List.length_append, List.length_singleton]; omega
      have hc2' := List.getElem?_eq_getElem hcl2
      have e2 := round (c + 1 - b)
      rw [show b + (c + 1 - b) = c + 1 by omega, Nat.mul_comm (m.length - b) r, ← hl (c + 1) (by omega), hc2', Nat.mul_comm (p * k) r] at e2
      have e3 : stp p os (c + 1 + r * (m.length - b)) st = some z := by
        rw [show c + 1 + r * (m.length - b) = (c + r * (m.length - b)) + 1 by omega]
        show (stp p os (c + r * (m.length - b)) st).bind (hop p os) = _
        rw [sc]
        exact hz
      rw [e3] at e2
      rw [Option.some.inj e2]
      exact c3 (c + 1) _ (by omega) hc2'
    · rw [if_neg c]
      show ∃ c z, cntS (m ++ [s]) 0 x = c + 1 ∧ (m ++ [s])[c]? = some z ∧ LastAt p os st x (shf 0 z) (c + 0) ∧ (Option.isSome (some b) = true → c + 1 < (m ++ [s]).length)
      obtain ⟨c1, c2, c3⟩ := cntS_spec (sk := 0) (x := x) ok hl'
      have h0 : (m ++ [s])[0]? = some st := hl 0 (Nat.zero_le _)
      have pos : 0 < cntS (m ++ [s]) 0 x := by
        refine Nat.pos_of_ne_zero fun z => ?_
        have := c3 0 st (by omega) h0
        omega
      have hi : cntS (m ++ [s]) 0 x ≤ b := by
        refine Nat.le_of_not_lt fun z => ?_
        have := c2 b t z g1
        omega
      obtain ⟨c, hc⟩ : ∃ c, cntS (m ++ [s]) 0 x = c + 1 := ⟨cntS (m ++ [s]) 0 x - 1, by omega⟩
      have hcl : c < (m ++ [s]).length := by rw [List.length_append, List.length_singleton]; omega
      have hc' := List.getElem?_eq_getElem hcl
      have sc : stp p os c st = some ((m ++ [s])[c]) := by
        rw [← hl c (by omega)]
        exact hc'
      refine ⟨c, (m ++ [s])[c], hc, hc', ⟨sc, c2 c _ (by omega) hc', fun z hz => ?_⟩, fun _ => by rw [List.length_append, List.length_singleton]; omega⟩
      have e3 : (m ++ [s])[c + 1]? = some z := by
        rw [hl (c + 1) (by omega)]
        show (stp p os c st).bind (hop p os) = _
        rw [sc]
        exact hz
      have := c3 (c + 1) z (by omega) e3
      omega
/-! ### stops as data -/
theorem fol_first {p : Nat} {s : Nat × Nat} {r : List (Nat × Nat)} : fol p [] (s :: r) = fol p [s] r := by simp [fol]
def plD (s : Nat × Nat) : PyData := .tuple [.int s.1, .int s.2]
theorem plD_shaped (s : Nat × Nat) : PySem.SeqAt.shaped (plD s) = true := by
  show ((plD s).canLay0 && decide ((plD s).depth ≤ 64)) = true
  rw [Bool.and_eq_true]
  refine ⟨by simp [plD, PyData.canLay0, PyData.canLayAll0], decide_eq_true ?_⟩
  have e : (plD s).depth = 1 := by simp [plD, PyData.depth, PyData.depthAll]
  omega
theorem plDs_lay : ∀ l : List (Nat × Nat), PyData.canLayAll0 (l.map plD) = true
  | [] => by simp [PyData.canLayAll0]
  | s :: l => by
    have h : (plD s).canLay0 = true := by simp [plD, PyData.canLay0, PyData.canLayAll0]
    simp [PyData.canLayAll0, h, plDs_lay l]
theorem plDs_depth : ∀ l : List (Nat × Nat), PyData.depthAll (l.map plD) ≤ 1
  | [] => by simp [PyData.depthAll]
  | s :: l => by
    have h1 := plDs_depth l
    have h2 : (plD s).depth = 1 := by simp [plD, PyData.depth, PyData.depthAll]
    simp only [List.map_cons, PyData.depthAll]
    omega
theorem plDs_shaped (l : List (Nat × Nat)) : PySem.SeqAt.shaped (.list (l.map plD)) = true := by
  have h1 := plDs_depth l
  show (PyData.canLay0 (.list (l.map plD)) && decide (PyData.depth (.list (l.map plD)) ≤ 64)) = true
  rw [Bool.and_eq_true]
  refine ⟨by simp only [PyData.canLay0]; exact plDs_lay l, decide_eq_true ?_⟩
  simp only [PyData.depth]
  omega
theorem plD_eqv (s t : Nat × Nat) : PyData.eqv (plD s) (plD t) = decide (s = t) := by
  obtain ⟨a, b⟩ := s
  obtain ⟨c, d⟩ := t
  have e : PyData.eqv (plD (a, b)) (plD (c, d)) = (((a : Int) == (c : Int)) && (((b : Int) == (d : Int)) && true)) := by simp only [plD, PyData.eqv, PyData.eqvAll]
  rw [e]
  by_cases h : ((a, b) : Nat × Nat) = (c, d)
  · cases h
    simp
  · rw [decide_eq_false h]
    by_cases h1 : a = c
    · have h2 : ¬ (b : Int) = (d : Int) := fun z => h (by rw [h1, show b = d by omega])
      have e2 : ((b : Int) == (d : Int)) = false := beq_eq_false_iff_ne.mpr h2
      rw [e2, Bool.false_and, Bool.and_false]
    · have e2 : ((a : Int) == (c : Int)) = false := beq_eq_false_iff_ne.mpr (by omega)
      rw [e2, Bool.false_and]
theorem stop_dp {K : PySem.W.Frag} {H : Hp} {v : V} {s : Nat × Nat} (h : StopAt H v s) : Dp K H v (plD s) := by
  obtain ⟨u, rfl, hu⟩ := h
  exact .tup (SqT.of hu) (.cons (.int _) (.cons (.int _) .nil))
theorem stops_dp {K : PySem.W.Frag} {H : Hp} {vs : List V} {l : List (Nat × Nat)} (h : Paired (StopAt H) vs l) : DpAll K H vs (l.map plD) := by
  induction h with
  | nil => exact .nil
  | cons r _ ih => exact .cons (stop_dp r) ih
/-! ### days of a house: plain -/
/-- the three lists of day_sets: by the days below n -/
def arr (p h : Nat) (os : List Od) (hs n : Nat) : List Nat := (List.range n).filter fun d => (folR p h os (hs, d)).2.isNone
def chs (p h : Nat) (os : List Od) (hs n : Nat) : List Nat := (List.range n).filter fun d => (folR p h os (hs, d)).2.isSome
def ret (p h : Nat) (os : List Od) (hs n : Nat) : List Nat := (List.range n).filter fun d => ((folR p h os (hs, d)).1.drop 1).any fun s => decide (s.1 = hs)
theorem filter_nints {n : Nat} {f : Nat → Bool} (h : f n = true) : nints ((List.range (n + 1)).filter f) = nints ((List.range n).filter f) ++ [.int (n : Nat)] := by
  rw [filter_range_succ', if_pos h]
  unfold nints
  rw [List.map_append]
  rfl
theorem filter_nints' {n : Nat} {f : Nat → Bool} (h : f n = false) : nints ((List.range (n + 1)).filter f) = nints ((List.range n).filter f) := by
  rw [filter_range_succ', if_neg (by rw [h]; exact Bool.false_ne_true), List.append_nil]
theorem nints_small {n : Nat} {f : Nat → Bool} (h : n ≤ 30) : (nints ((List.range n).filter f)).length < sizeLine := by
  unfold nints
  rw [List.length_map]
  exact small1000 (Nat.le_trans (List.length_filter_le _ _) (by rw [List.length_range]; omega))
/-! ### equal data (nested lists and tuples of None, bools, ints, texts) -/
def Flat1 (v : V) : Prop := v = .non ∨ (∃ b, v = .bl b) ∨ (∃ i, v = .int i) ∨ ∃ s, v = .str s
def Eqv : Nat → Hp → V → V → Prop
  | 0, _, a, b => a = b ∧ Flat1 a
  | n + 1, H, a, b => (a = b ∧ Flat1 a) ∨ (∃ p q xs ys, a = .ref p ∧ b = .ref q ∧ H p = some (.tup xs) ∧ H q = some (.tup ys) ∧ xs.length ≤ 1000 ∧ Paired (Eqv n H) xs ys) ∨
      ∃ p q xs ys, a = .ref p ∧ b = .ref q ∧ H p = some (.lst xs) ∧ H q = some (.lst ys) ∧ xs.length ≤ 1000 ∧ Paired (Eqv n H) xs ys
theorem Eqv.flat {n : Nat} {H : Hp} {a b : V} (e : a = b) (f : Flat1 a) : Eqv n H a b := by
  cases n with
  | zero => exact ⟨e, f⟩
  | succ n => exact .inl ⟨e, f⟩
theorem Eqv.int {n : Nat} {H : Hp} {i : Int} : Eqv n H (.int i) (.int i) := Eqv.flat rfl (.inr (.inr (.inl ⟨i, rfl⟩)))
theorem Eqv.non {n : Nat} {H : Hp} : Eqv n H .non .non := Eqv.flat rfl (.inl rfl)
theorem Eqv.same : ∀ {n : Nat} {H H' : Hp} {a b : V}, Same H H' → Eqv n H a b → Eqv n H' a b
  | 0, _, _, _, _, _, h => h
  | n + 1, H, H', a, b, s, h => by
    rcases h with h | ⟨p, q, xs, ys, e1, e2, h1, h2, h3, h4⟩ | ⟨p, q, xs, ys, e1, e2, h1, h2, h3, h4⟩
    · exact .inl h
    · exact .inr (.inl ⟨p, q, xs, ys, e1, e2, s _ _ h1, s _ _ h2, h3, Paired.mapP h4 fun _ _ z => Eqv.same s z⟩)
    · exact .inr (.inr ⟨p, q, xs, ys, e1, e2, s _ _ h1, s _ _ h2, h3, Paired.mapP h4 fun _ _ z => Eqv.same s z⟩)
theorem optEqv {H : Hp} {v v' : V} {o : Option (Nat × Nat)} (h : OptStop H v o) (h' : OptStop H v' o) : Eqv 1 H v v' := by
  cases o with
  | none =>
    obtain rfl : v = .non := h
    obtain rfl : v' = .non := h'
    exact Eqv.non
  | some s =>
    obtain ⟨u, rfl, hu⟩ := h
    obtain ⟨u2, rfl, hu2⟩ := h'
    exact .inr (.inl ⟨u, u2, _, _, rfl, rfl, hu, hu2, by show 2 ≤ 1000; decide, .cons Eqv.int (.cons Eqv.int .nil)⟩)
theorem OptStop.keep {H H' : Hp} {v : V} {o : Option (Nat × Nat)} (k : TupKeep H H') (h : OptStop H v o) : OptStop H' v o := by
  cases o with
  | none => exact h
  | some s => exact StopAt.keep k h
abbrev s_l_net : Stmt := top 41
abbrev N_l_net : List Str := ["_law_parts"]
abbrev P_l_net : List Str := ["_law_parts"]
theorem sc_l_net : FnScope N_l_net P_l_net (defScope s_l_net) := ⟨rfl, rfl, rfl, by decide +kernel, rfl, by decide +kernel, by decide +kernel⟩
/-! ### the law's helper: a net of parts -/
def spNet (C : Addr) : Sp := fun vs H Q _ => ∃ (a t : Addr) (p h : Nat) (os : List Od), vs = [.ref a] ∧ H a = some (.tup [.int p, .int h, .ref t]) ∧ OrdsTup H t os ∧ NetOk p h os ∧
  ∀ H' x F, Same H H' → (∀ b ∈ F, H b = none) → NetAt C H' x p h os t F → Q (.ref x) H'
section
variable {P : Program} {w : World} {K : PySem.W.Frag} {mg : Str → Option Value} {base : Heap}
theorem ok_net {f C fI : Addr} {fd fdI : FuncData} (F : Fun K "_law_net" "_law_net" s_l_net f fd) (M : Mk K C fI) (gC : mg "Net" = some (.ref C)) (GI : FnOk P w K mg base CX0 5 fI fdI P_Net_init (spInit C)) (bI : Binds K fdI P_Net_init []) : FnOk P w K mg base CX0 7 f fd P_l_net (spNet C) := by
  refine F.ok sc_l_net (fun vs H Q E h => ?_) (fun cdv A outer s H vs Q E hr h => ?_)
  · obtain ⟨a, t, p, h, os, rfl, _⟩ := h
    rfl
  · obtain ⟨a, t, p, h, os, rfl, ha, hO, ok, q⟩ := h
    refine ⟨_, pss_one (ps_ret (pe_make M GI hr (by rfl) gC bI .nil pass0 (pa_cons (pe_ix ix_tup (pv 0) pe_int (fun _ _ => rfl)) (pa_cons (pe_ix ix_tup (pv 0) pe_int (fun _ _ => rfl)) (pa_cons (pe_ix ix_tup (pv 0) pe_int (fun _ _ => rfl)) pa_nil))))), ?_⟩
    refine ⟨_, rfl, a, _, 0, _, rfl, rfl, SqT.of ha, atI_nat (j := 0) rfl, _, rfl, a, _, 1, _, rfl, rfl, SqT.of ha, atI_nat (j := 1) rfl, _, rfl, a, _, 2, _, rfl, rfl, SqT.of ha, atI_nat (j := 2) rfl, ?_⟩
    intro x dx nx ndx nex
    have s0 : Same H (upd (upd H dx (.own x)) x (.ins C dx [])) := same_updN (same_upd ndx) nx
    exact ⟨x, dx, t, p, h, os, H, rfl, ok, hO.keep (tk_of s0), s0, nx, upd_same, fun H' F s1 nF N => ⟨rfl, q H' x F s1 nF N⟩⟩
end
/-! ### the law -/
def spLaw (K : PySem.W.Frag) : Sp := fun vs H Q _ => ∃ (a : Addr) (ns : List Int), vs = [.ref a] ∧ SqL K H a (ns.map V.int) ∧ ns.length ≤ 63 ∧ ∀ H', Q (.bl true) H'
/-- all that the law's step leans on, at the heap H -/
structure StepAt (C : Addr) (H : Hp) (d ap x t : Addr) (p h : Nat) (os : List Od) (F : List Addr) : Prop where
  D : DAt H d
  pa : H ap = some (.tup [.int p, .int h, .ref t])
  po : OrdsTup H t os
  N : NetAt C H x p h os t F
theorem StepAt.keep {C : Addr} {H H' : Hp} {d ap x t : Addr} {p h : Nat} {os : List Od} {F : List Addr} (S : StepAt C H d ap x t p h os F) (s : Same H H') : StepAt C H' d ap x t p h os F :=
  ⟨S.D.but s, s _ _ S.pa, S.po.keep (tk_of s), S.N.same s⟩
theorem StepAt.but {C : Addr} {H H' : Hp} {d ap x t : Addr} {p h : Nat} {os : List Od} {F : List Addr} (S : StepAt C H d ap x t p h os F) (s : But d H H') (D' : DAt H' d) (nF : d ∉ F) : StepAt C H' d ap x t p h os F :=
  ⟨D', s.tk S.D _ _ S.pa, S.po.keep (s.tk S.D), S.N.but s (s.tk S.D) nF⟩
theorem StepAt.lst {C : Addr} {H : Hp} {d ap x t u : Addr} {p h : Nat} {os : List Od} {F : List Addr} {xs : List V} {o : HO} (S : StepAt C H d ap x t p h os F) (hu : H u = some (.lst xs)) (nd : d ≠ u) (nF : u ∉ F) : StepAt C (upd H u o) d ap x t p h os F := by
  have tk : TupKeep H (upd H u o) := TupKeep.lst hu
  exact ⟨S.D.updN nd, tk _ _ S.pa, S.po.keep tk, S.N.but .upd tk nF⟩
theorem StepAt.parts {C : Addr} {H : Hp} {d ap x t : Addr} {p h : Nat} {os : List Od} {F : List Addr} (S : StepAt C H d ap x t p h os F) : PartsAt H ap p h os := ⟨t, S.pa, S.po⟩
theorem ordsEqv {H : Hp} {t : Addr} {os : List Od} (h : OrdsTup H t os) (l : os.length ≤ 20) : Eqv 2 H (.ref t) (.ref t) := by
  obtain ⟨ts, ht, hP⟩ := h
  refine .inr (.inl ⟨t, t, ts, ts, rfl, rfl, ht, ht, by rw [hP.length]; omega, ?_⟩)
  clear l ht
  induction hP with
  | nil => exact .nil
  | cons r _ ih =>
    refine .cons ?_ ih
    obtain ⟨u, rfl, hu⟩ := r
    exact .inr (.inl ⟨u, u, _, _, rfl, rfl, hu, hu, by show 5 ≤ 1000; decide, .cons Eqv.int (.cons Eqv.int (.cons Eqv.int (.cons Eqv.int (.cons Eqv.int .nil))))⟩)
theorem nintsEqv {H : Hp} {a b : Addr} {l : List Nat} (ha : H a = some (.lst (nints l))) (hb : H b = some (.lst (nints l))) (hl : l.length ≤ 1000) : Eqv 1 H (.ref a) (.ref b) := by
  refine .inr (.inr ⟨a, b, _, _, rfl, rfl, ha, hb, by unfold nints; rw [List.length_map]; exact hl, ?_⟩)
  unfold nints
  clear ha hb hl
  induction l with
  | nil => exact .nil
  | cons n l ih => exact .cons ⟨rfl, .inr (.inr (.inl ⟨_, rfl⟩))⟩ ih
theorem stopsEqv {H : Hp} {a b : Addr} {xs ys : List V} {l : List (Nat × Nat)} (ha : H a = some (.lst xs)) (hb : H b = some (.lst ys)) (hx : Paired (StopAt H) xs l) (hy : Paired (StopAt H) ys l) (hl : l.length ≤ 1000) : Eqv 2 H (.ref a) (.ref b) := by
  refine .inr (.inr ⟨a, b, _, _, rfl, rfl, ha, hb, by rw [hx.length]; exact hl, ?_⟩)
  clear ha hb hl
  induction hx generalizing ys with
  | nil => cases hy; exact .nil
  | cons r _ ih =>
    cases hy with
    | cons r2 t2 =>
      refine .cons ?_ (ih t2)
      obtain ⟨u, rfl, hu⟩ := r
      obtain ⟨u2, rfl, hu2⟩ := r2
      exact .inr (.inl ⟨u, u2, _, _, rfl, rfl, hu, hu2, by show 2 ≤ 1000; decide, .cons (Eqv.int) (.cons Eqv.int .nil)⟩)
theorem optV_flat1 (o : Option Nat) : Flat1 (optV o) := by
  cases o with
  | none => exact .inl rfl
  | some k => exact .inr (.inr (.inl ⟨_, rfl⟩))
theorem Paired.last {α β : Type} {F : α → β → Prop} {xs : List α} {l : List β} {s : β} (h : Paired F xs (l ++ [s])) : ∃ ys v, xs = ys ++ [v] ∧ Paired F ys l ∧ F v s := by
  induction l generalizing xs with
  | nil =>
    cases h with
    | cons r t =>
      cases t
      exact ⟨[], _, rfl, .nil, r⟩
  | cons b l ih =>
    cases h with
    | cons r t =>
      obtain ⟨ys, v, rfl, h1, h2⟩ := ih t
      exact ⟨_ :: ys, v, rfl, .cons r h1, h2⟩
theorem Paired.take {α β : Type} {F : α → β → Prop} {xs : List α} {l : List β} (h : Paired F xs l) : ∀ n, Paired F (xs.take n) (l.take n) := by
  induction h with
  | nil =>
    intro n
    rw [List.take_nil, List.take_nil]
    exact .nil
  | cons r _ ih =>
    intro n
    cases n with
    | zero => exact .nil
    | succ n => exact .cons r (ih n)
theorem nints_dp {K : PySem.W.Frag} {H : Hp} {a : Addr} {l : List Nat} (h : H a = some (.lst (nints l))) : Dp K H (.ref a) (.list ((l.map fun (n : Nat) => (n : Int)).map PyData.int)) := by
  refine .lst (SqL.of h) ?_
  clear h
  unfold nints
  induction l with
  | nil => exact .nil
  | cons n l ih => exact .cons (.int _) ih
theorem nints_eqv (l : List Int) : PyData.eqv (.list (l.map PyData.int)) (.list (l.map PyData.int)) = true :=
  PySem.SeqAt.eqv_refl _ (PySem.SeqAt.canLay_of_shaped (PySem.W.ke_shaped_ints l))
/-! ### loops: plain mathematics -/
theorem plc_shf {p k : Nat} (s : Nat × Nat) : plc p (shf (p * k) s) = plc p s := by
  unfold plc shf
  rw [Nat.add_mul_mod_self_left]
theorem plc_plc {p : Nat} (s : Nat × Nat) : plc p (plc p s) = plc p s := by
  unfold plc
  rw [Nat.mod_mod]
theorem shf_plc {p : Nat} (s : Nat × Nat) : s = shf (p * (s.2 / p)) (plc p s) := by
  obtain ⟨a, d⟩ := s
  show (a, d) = (a, d % p + p * (d / p))
  rw [Nat.add_comm, Nat.div_add_mod]
/-- a letter's place behind i hops -/
def pst (p : Nat) (os : List Od) (i : Nat) (q : Nat × Nat) : Option (Nat × Nat) := (stp p os i q).map (plc p)
theorem pst_shf {p i k : Nat} {os : List Od} (s : Nat × Nat) : pst p os i (shf (p * k) s) = pst p os i s := by
  unfold pst
  rw [stp_shf, Option.map_map]
  congr 1
  funext t
  exact plc_shf t
theorem pst_plc {p i : Nat} {os : List Od} (s : Nat × Nat) : pst p os i (plc p s) = pst p os i s := by
  conv => rhs; rw [shf_plc (p := p) s]
  rw [pst_shf]
theorem pst_add {p i j : Nat} {os : List Od} (s : Nat × Nat) : pst p os (i + j) s = (pst p os i s).bind (pst p os j) := by
  unfold pst
  rw [stp_add]
  cases stp p os i s with
  | none => rfl
  | some c => exact (pst_plc c).symm
theorem pst_zero {p : Nat} {os : List Od} (s : Nat × Nat) : pst p os 0 s = some (plc p s) := rfl
/-- l is a loop: the places that f goes through, again and again -/
structure CycF (p : Nat) (os : List Od) (l : List (Nat × Nat)) (f : Nat → Nat × Nat) (n : Nat) : Prop where
  n0 : 0 < n
  eq : l = (List.range n).map f
  nd : l.Nodup
  nx : ∀ i, pst p os 1 (f i) = some (f (i + 1))
  per : ∀ i, f (i + n) = f i
def Cyc (p : Nat) (os : List Od) (l : List (Nat × Nat)) : Prop := ∃ f n, CycF p os l f n
section
variable {p : Nat} {os : List Od} {l l' : List (Nat × Nat)} {f g : Nat → Nat × Nat} {n m : Nat}
theorem CycF.len (c : CycF p os l f n) : l.length = n := by rw [c.eq, List.length_map, List.length_range]
theorem CycF.get (c : CycF p os l f n) {i : Nat} (h : i < n) : l[i]? = some (f i) := by rw [c.eq, List.getElem?_map, List.getElem?_range h]; rfl
theorem CycF.perk (c : CycF p os l f n) (i : Nat) : ∀ k, f (i + n * k) = f i
  | 0 => rfl
  | k + 1 => by
    rw [Nat.mul_succ, ← Nat.add_assoc, c.per]
    exact c.perk i k
theorem CycF.mod (c : CycF p os l f n) (i : Nat) : f (i % n) = f i := by
  have h := c.perk (i % n) (i / n)
  rw [Nat.mod_add_div] at h
  exact h.symm
theorem CycF.mem (c : CycF p os l f n) {x : Nat × Nat} : x ∈ l ↔ ∃ i, x = f i := by
  rw [c.eq, List.mem_map]
  constructor
  · rintro ⟨i, _, rfl⟩
    exact ⟨i, rfl⟩
  · rintro ⟨i, rfl⟩
    exact ⟨i % n, List.mem_range.mpr (Nat.mod_lt _ c.n0), c.mod i⟩
theorem CycF.inj (c : CycF p os l f n) {i j : Nat} (hi : i < n) (hj : j < n) (e : f i = f j) : i = j := by
  have a := c.get hi
  have b := c.get hj
  rw [← e] at b
  exact (List.getElem?_inj (by rw [c.len]; exact hi) c.nd).mp (a.trans b.symm)
theorem CycF.place (c : CycF p os l f n) (i : Nat) : plc p (f i) = f i := by
  have h := c.nx (i + (n - 1))
  have n0 := c.n0
  rw [show i + (n - 1) + 1 = i + n by omega, c.per] at h
  unfold pst at h
  obtain ⟨t, _, e⟩ := Option.map_eq_some_iff.mp h
  rw [← e]
  exact plc_plc t
theorem CycF.steps (c : CycF p os l f n) (i : Nat) : ∀ k, pst p os k (f i) = some (f (i + k))
  | 0 => by rw [pst_zero, c.place]; rfl
  | k + 1 => by
    rw [pst_add, c.steps i k]
    exact c.nx (i + k)
/-- the rest of both, from a shared place -/
theorem CycF.along (c : CycF p os l f n) (d : CycF p os l' g m) {i j : Nat} (e : f i = g j) (k : Nat) : f (i + k) = g (j + k) := by
  have a := c.steps i k
  rw [e, d.steps j k] at a
  exact (Option.some.inj a).symm
theorem CycF.le_of (c : CycF p os l f n) (d : CycF p os l' g m) {i j : Nat} (e : f i = g j) : n ≤ m := by
  refine Nat.le_of_not_lt fun lt => ?_
  have h := c.along d e m
  rw [d.per, ← e, ← c.mod (i + m), ← c.mod i] at h
  have n0 := c.n0
  have m0 := d.n0
  have := c.inj (Nat.mod_lt _ n0) (Nat.mod_lt _ n0) h
  have e2 : (i + m) % n = (i % n + m) % n := by rw [Nat.mod_add_mod]
  rw [e2] at this
  have hi := Nat.mod_lt i n0
  by_cases z : i % n + m < n
  · rw [Nat.mod_eq_of_lt z] at this
    omega
  · rw [Nat.mod_eq_sub_mod (by omega), Nat.mod_eq_of_lt (by omega)] at this
    omega
theorem CycF.same_len (c : CycF p os l f n) (d : CycF p os l' g m) {i j : Nat} (e : f i = g j) : n = m := Nat.le_antisymm (c.le_of d e) (d.le_of c e.symm)
theorem CycF.sub (c : CycF p os l f n) (d : CycF p os l' g m) {i j : Nat} (e : f i = g j) {x : Nat × Nat} (hx : x ∈ l) : x ∈ l' := by
  obtain ⟨k, rfl⟩ := c.mem.mp hx
  have h := c.along d e (k + (n * (i + 1) - i))
  have n0 := c.n0
  have hge : i ≤ n * (i + 1) := Nat.le_trans (Nat.le_succ i) (Nat.le_mul_of_pos_left _ n0)
  rw [show i + (k + (n * (i + 1) - i)) = k + n * (i + 1) by omega, c.perk] at h
  rw [h]
  exact d.mem.mpr ⟨_, rfl⟩
theorem CycF.eq_of_head (c : CycF p os l f n) (d : CycF p os l' g m) (e : f 0 = g 0) : l = l' := by
  obtain rfl := c.same_len d e
  rw [c.eq, d.eq]
  refine List.map_congr_left fun i _ => ?_
  have := c.along d e i
  rw [Nat.zero_add] at this
  exact this
theorem CycF.turn (c : CycF p os l f n) : CycF p os (l.drop 1 ++ l.take 1) (fun i => f (i + 1)) n := by
  have n0 := c.n0
  have hl : l.drop 1 ++ l.take 1 = (List.range n).map fun i => f (i + 1) := by
    obtain ⟨k, rfl⟩ : ∃ k, n = k + 1 := ⟨n - 1, by omega⟩
    have e1 : l = f 0 :: (List.range k).map fun i => f (i + 1) := by
      rw [c.eq, List.range_succ_eq_map, List.map_cons, List.map_map]
      rfl
    rw [e1, List.range_succ, List.map_append]
    show (List.range k).map _ ++ [f 0] = _
    have := c.per 0
    rw [Nat.zero_add] at this
    rw [← this]
    rfl
  refine ⟨n0, hl, ?_, fun i => c.nx (i + 1), fun i => ?_⟩
  · refine List.Perm.nodup (l := l) ?_ c.nd
    have h := List.perm_append_comm (l₁ := l.take 1) (l₂ := l.drop 1)
    rw [List.take_append_drop] at h
    exact h
  · show f (i + n + 1) = f (i + 1)
    rw [show i + n + 1 = (i + 1) + n by omega, c.per]
end
/-- stops, one before the other -/
def ltS (s t : Nat × Nat) : Bool := if s.1 = t.1 then decide (s.2 < t.2) else decide (s.1 < t.1)
theorem ltS_iff {s t : Nat × Nat} : ltS s t = true ↔ s.1 < t.1 ∨ (s.1 = t.1 ∧ s.2 < t.2) := by
  unfold ltS
  split
  · rename_i h
    rw [decide_eq_true_iff]
    omega
  · rename_i h
    rw [decide_eq_true_iff]
    omega
theorem ltS_no {s t : Nat × Nat} : ltS s t = false ↔ ¬ (s.1 < t.1 ∨ (s.1 = t.1 ∧ s.2 < t.2)) := by
  rw [← ltS_iff]
  cases ltS s t <;> simp
theorem ltS_anti {s t : Nat × Nat} (h1 : ltS s t = false) (h2 : ltS t s = false) : s = t := by
  have a := ltS_no.mp h1
  have b := ltS_no.mp h2
  exact Prod.ext (by omega) (by omega)
theorem ltS_trans {s t u : Nat × Nat} (h1 : ltS s t = true) (h2 : ltS t u = true) : ltS s u = true := by
  have a := ltS_iff.mp h1
  have b := ltS_iff.mp h2
  exact ltS_iff.mpr (by omega)
/-- the least stop -/
def minS (x : Nat × Nat) (xs : List (Nat × Nat)) : Nat × Nat := xs.foldl (fun a y => if ltS y a then y else a) x
theorem minS_spec : ∀ (xs : List (Nat × Nat)) (x : Nat × Nat), minS x xs ∈ x :: xs ∧ ∀ y ∈ x :: xs, ltS y (minS x xs) = false
  | [], x => ⟨List.mem_cons_self, fun y hy => by
      rw [List.mem_singleton.mp hy]
      exact ltS_no.mpr (by show ¬ (x.1 < x.1 ∨ (x.1 = x.1 ∧ x.2 < x.2)); omega)⟩
  | z :: r, x => by
    show minS (if ltS z x then z else x) r ∈ _ ∧ ∀ y ∈ _, ltS y (minS (if ltS z x then z else x) r) = false
    obtain ⟨h1, h2⟩ := minS_spec r (if ltS z x then z else x)
    generalize hw : (if ltS z x then z else x) = w at h1 h2
    have hwm : w = z ∨ w = x := by
      rw [← hw]
      split
      · exact .inl rfl
      · exact .inr rfl
    have hwl : ltS z w = false ∧ ltS x w = false := by
      by_cases c : ltS z x = true
      · rw [if_pos c] at hw
        subst hw
        have := ltS_iff.mp c
        exact ⟨ltS_no.mpr (by omega), ltS_no.mpr (by omega)⟩
      · rw [if_neg c] at hw
        subst hw
        exact ⟨Bool.eq_false_iff.mpr c, ltS_no.mpr (by omega)⟩
    refine ⟨?_, fun y hy => ?_⟩
    · rcases List.mem_cons.mp h1 with e | e
      · rw [e]
        rcases hwm with e | e <;> rw [e] <;> simp
      · exact List.mem_cons_of_mem _ (List.mem_cons_of_mem _ e)
    · have key : ∀ u, ltS u w = false → ltS u (minS w r) = false := fun u hu => by
        have a := ltS_no.mp hu
        have b := ltS_no.mp (h2 w List.mem_cons_self)
        exact ltS_no.mpr (by omega)
      rcases List.mem_cons.mp hy with e | e
      · rw [e]
        exact key x hwl.2
      · rcases List.mem_cons.mp e with e | e
        · rw [e]
          exact key z hwl.1
        · exact h2 y (List.mem_cons_of_mem _ e)
/-- a list that begins with its least stop -/
def hm : List (Nat × Nat) → Bool
  | [] => false
  | x :: xs => decide (x = minS x xs)
theorem hm_iff {x : Nat × Nat} {xs : List (Nat × Nat)} : hm (x :: xs) = true ↔ ∀ y ∈ x :: xs, ltS y x = false := by
  unfold hm
  rw [decide_eq_true_iff]
  obtain ⟨h1, h2⟩ := minS_spec xs x
  constructor
  · intro e
    rw [← e] at h2
    exact h2
  · intro h
    exact ltS_anti (h2 x List.mem_cons_self) (h _ h1)
section
variable {p : Nat} {os : List Od} {l l' : List (Nat × Nat)}
theorem Cyc.cons (c : Cyc p os l) : ∃ x xs, l = x :: xs := by
  obtain ⟨f, n, c⟩ := c
  cases l with
  | nil =>
    have a := c.len
    have b := c.n0
    simp at a
    omega
  | cons x xs => exact ⟨x, xs, rfl⟩
/-- loops that share a stop and begin with their least are the same -/
theorem Cyc.uniq (c : Cyc p os l) (d : Cyc p os l') (h : hm l = true) (h' : hm l' = true) {x : Nat × Nat} (hx : x ∈ l) (hx' : x ∈ l') : l = l' := by
  obtain ⟨f, n, c⟩ := c
  obtain ⟨g, m, d⟩ := d
  obtain ⟨i, rfl⟩ := c.mem.mp hx
  obtain ⟨j, e⟩ := d.mem.mp hx'
  have hf : l[0]? = some (f 0) := c.get c.n0
  have hg : l'[0]? = some (g 0) := d.get d.n0
  have m1 : f 0 ∈ l' := c.sub d e (List.mem_of_getElem? hf)
  have m2 : g 0 ∈ l := d.sub c e.symm (List.mem_of_getElem? hg)
  refine c.eq_of_head d ?_
  cases l with
  | nil => cases hf
  | cons x xs =>
    cases l' with
    | nil => cases hg
    | cons y ys =>
      obtain rfl : x = f 0 := Option.some.inj hf
      obtain rfl : y = g 0 := Option.some.inj hg
      exact ltS_anti (hm_iff.mp h' _ m1) (hm_iff.mp h _ m2)
theorem Cyc.turn (c : Cyc p os l) : Cyc p os (l.drop 1 ++ l.take 1) := by
  obtain ⟨f, n, c⟩ := c
  exact ⟨_, _, c.turn⟩
theorem turn_mem {x : Nat × Nat} : x ∈ l.drop 1 ++ l.take 1 ↔ x ∈ l := by
  have h := List.perm_append_comm (l₁ := l.take 1) (l₂ := l.drop 1)
  rw [List.take_append_drop] at h
  exact h.mem_iff.symm
end
/-! ### the loops of a net: plain mathematics -/
theorem pst_house {p h : Nat} {os : List Od} {st : Nat × Nat} (ok : NetOk p h os) (hh : st.1 < h) : ∀ (i : Nat) {s : Nat × Nat}, stp p os i st = some s → s.1 < h
  | 0, s, e => by
    cases e
    exact hh
  | i + 1, s, e => by
    obtain ⟨c, hc, e⟩ := Option.bind_eq_some_iff.mp (show (stp p os i st).bind (hop p os) = some s from e)
    exact hop_house ok e
theorem pst_get {p i : Nat} {os : List Od} {st s : Nat × Nat} (e : stp p os i st = some s) : pst p os i st = some (plc p s) := by
  unfold pst
  rw [e]
  rfl
theorem pst_next {p i : Nat} {os : List Od} {st s t : Nat × Nat} (e : stp p os i st = some s) (e2 : stp p os (i + 1) st = some t) : pst p os 1 (plc p s) = some (plc p t) := by
  have h := pst_add (p := p) (os := os) (i := i) (j := 1) st
  rw [pst_get e, pst_get e2] at h
  exact h.symm
/-- what a letter that chases goes through again and again, from where it comes back to -/
def rawOf (p h : Nat) (os : List Od) (q : Nat × Nat) : Option (List (Nat × Nat)) := match (folR p h os q).2 with
  | none => none
  | some b => some (((folR p h os q).1.dropLast.drop b).map (plc p))
/-- the loop of a letter that comes back to its first stop -/
def lpOf (p h : Nat) (os : List Od) (q : Nat × Nat) : Option (List (Nat × Nat)) := match (folR p h os q).2 with
  | some 0 => some ((folR p h os q).1.dropLast.map (plc p))
  | _ => none
theorem raw_cycF {p h : Nat} {os : List Od} {q : Nat × Nat} {l : List (Nat × Nat)} (ok : NetOk p h os) (hh : q.1 < h) (e : rawOf p h os q = some l) : Cyc p os l ∧ (∀ x ∈ l, x.1 < h) ∧
    ∃ m s b, folR p h os q = (m ++ [s], some b) ∧ l = (m.drop b).map (plc p) ∧ plc p s ∈ l ∧ b < m.length ∧ ∀ x xs, l = x :: xs → ∃ t, m[b]? = some t ∧ x = plc p t := by
  rcases folR_cases ok hh with ⟨l', e', _⟩ | ⟨m, s, b, t, k, e', hl, hb, hs, hk, nd⟩
  · unfold rawOf at e
    rw [e'] at e
    cases e
  · unfold rawOf at e
    rw [e'] at e
    simp only [List.dropLast_concat] at e
    obtain rfl := Option.some.inj e
    have hbl : b < m.length := (List.getElem?_eq_some_iff.mp hb).1
    have hget : ∀ i, i < m.length → ∃ c, m[i]? = some c ∧ stp p os i q = some c := fun i hi => by
      have a := hl i (Nat.le_of_lt hi)
      rw [List.getElem?_append_left hi] at a
      exact ⟨m[i], List.getElem?_eq_getElem hi, a.symm.trans (List.getElem?_eq_getElem hi)⟩
    have hgs : stp p os m.length q = some s := by
      have a := hl m.length (Nat.le_refl _)
      rw [List.getElem?_append_right (Nat.le_refl _), Nat.sub_self] at a
      exact a.symm
    have hst : plc p s = plc p t := by rw [hs, plc_shf]
    have n0 : 0 < m.length - b := by omega
    let f : Nat → Nat × Nat := fun i => plc p (m.getD (b + i % (m.length - b)) (0, 0))
    have hf : ∀ i, i < m.length - b → ∃ c, m[b + i]? = some c ∧ stp p os (b + i) q = some c ∧ f i = plc p c := fun i hi => by
      obtain ⟨c, h1, h2⟩ := hget (b + i) (by omega)
      refine ⟨c, h1, h2, ?_⟩
      show plc p (m.getD (b + i % (m.length - b)) (0, 0)) = _
      rw [Nat.mod_eq_of_lt hi, List.getD_eq_getElem?_getD, h1]
      rfl
    have per : ∀ i, f (i + (m.length - b)) = f i := fun i => by
      show plc p (m.getD (b + (i + (m.length - b)) % (m.length - b)) (0, 0)) = _
      rw [Nat.add_mod_right]
    have modf : ∀ i, f (i % (m.length - b)) = f i := fun i => by
      show plc p (m.getD (b + (i % (m.length - b)) % (m.length - b)) (0, 0)) = _
      rw [Nat.mod_mod]
    have eql : (m.drop b).map (plc p) = (List.range (m.length - b)).map f := by
      refine List.ext_getElem? fun i => ?_
      rw [List.getElem?_map, List.getElem?_drop, List.getElem?_map]
      by_cases hi : i < m.length - b
      · obtain ⟨c, h1, _, h3⟩ := hf i hi
        rw [h1, List.getElem?_range hi]
        show some (plc p c) = some (f i)
        rw [h3]
      · rw [List.getElem?_eq_none (by omega), List.getElem?_eq_none (by rw [List.length_range]; omega)]
        rfl
    have nx : ∀ i, pst p os 1 (f i) = some (f (i + 1)) := fun i => by
      have hi := Nat.mod_lt i n0
      obtain ⟨c, h1, h2, h3⟩ := hf _ hi
      rw [← modf i, h3]
      by_cases z : i % (m.length - b) + 1 < m.length - b
      · obtain ⟨c', _, g2, g3⟩ := hf _ z
        have e1 : f (i + 1) = f (i % (m.length - b) + 1) := by rw [← modf (i + 1), ← modf (i % (m.length - b) + 1), Nat.mod_add_mod]
        rw [e1, g3]
        exact pst_next h2 g2
      · have e1 : f (i + 1) = f 0 := by
          rw [← modf (i + 1), ← Nat.mod_add_mod, show i % (m.length - b) + 1 = m.length - b by omega, Nat.mod_self]
        obtain ⟨c', k1, _, k3⟩ := hf 0 n0
        rw [Nat.add_zero] at k1
        obtain rfl : t = c' := Option.some.inj (hb.symm.trans k1)
        rw [e1, k3, ← hst]
        refine pst_next h2 ?_
        rw [show b + i % (m.length - b) + 1 = m.length by omega]
        exact hgs
    have nd2 : ((m.drop b).map (plc p)).Nodup := by
      rw [List.map_drop]
      exact nd.sublist (List.drop_sublist _ _)
    refine ⟨⟨f, _, n0, eql, nd2, nx, per⟩, fun x hx => ?_, m, s, b, e', rfl, ?_, hbl, fun x xs ex => ?_⟩
    · obtain ⟨c, hc, rfl⟩ := List.mem_map.mp hx
      obtain ⟨i, hi⟩ := List.getElem?_of_mem (List.mem_of_mem_drop hc)
      obtain ⟨c', k1, k2⟩ := hget i (List.getElem?_eq_some_iff.mp hi).1
      obtain rfl : c' = c := Option.some.inj (k1.symm.trans hi)
      exact (show c'.1 < h from pst_house ok hh i k2)
    · rw [hst]
      refine List.mem_map.mpr ⟨t, List.mem_of_getElem? (i := 0) ?_, rfl⟩
      rw [List.getElem?_drop]
      exact hb
    · have h0 : ((m.drop b).map (plc p))[0]? = some x := by rw [ex]; rfl
      rw [List.getElem?_map, List.getElem?_drop, Nat.add_zero, hb] at h0
      exact ⟨t, hb, (Option.some.inj h0).symm⟩
theorem lp_raw {p h : Nat} {os : List Od} {q : Nat × Nat} {l : List (Nat × Nat)} (e : lpOf p h os q = some l) : rawOf p h os q = some l := by
  unfold lpOf at e
  unfold rawOf
  split at e
  · rename_i h2
    rw [h2]
    exact e
  · cases e
theorem lp_cyc {p h : Nat} {os : List Od} {q : Nat × Nat} {l : List (Nat × Nat)} (ok : NetOk p h os) (hh : q.1 < h) (e : lpOf p h os q = some l) : Cyc p os l ∧ (∀ x ∈ l, x.1 < h) ∧ ∃ xs, l = plc p q :: xs := by
  obtain ⟨c, hx, m, s, b, e1, e2, _, hb, hd⟩ := raw_cycF ok hh (lp_raw e)
  refine ⟨c, hx, ?_⟩
  obtain ⟨x, xs, rfl⟩ := c.cons
  refine ⟨xs, ?_⟩
  obtain ⟨t, ht, rfl⟩ := hd x xs rfl
  unfold lpOf at e
  rw [e1] at e
  have b0 : b = 0 := by
    cases b with
    | zero => rfl
    | succ n => cases e
  subst b0
  have : (way p os (h * p + 1) q)[0]? = some q := by
    rw [show way p os (h * p + 1) q = rest p os (h * p + 1) (some q) from rfl, rest_succ]
    rfl
  rcases folR_cases ok hh with ⟨l', e', _⟩ | ⟨m', s', b', t', k, e', hl, _⟩
  · rw [e1] at e'
    cases e'
  · rw [e1] at e'
    have e5 := (Prod.mk.inj e').1
    have h0 := hl 0 (Nat.zero_le _)
    rw [← e5, List.getElem?_append_left hb, ht] at h0
    obtain rfl : t = q := Option.some.inj h0
    rfl
/-- a letter that is posted on a loop comes back to its first stop -/
theorem cyc_lp {p h n : Nat} {os : List Od} {l : List (Nat × Nat)} {f : Nat → Nat × Nat} (ok : NetOk p h os) (c : CycF p os l f n) (hq : (f 0).1 < h) : lpOf p h os (f 0) = some l ∧ (folR p h os (f 0)).2 = some 0 := by
  have st : ∀ i, ∃ s, stp p os i (f 0) = some s ∧ plc p s = f i := fun i => by
    have h1 := c.steps 0 i
    rw [Nat.zero_add] at h1
    exact Option.map_eq_some_iff.mp h1
  rcases folR_cases ok hq with ⟨l', _, _, hl, _⟩ | ⟨m, s, b, t, k, e', hl, hb, hs, hk, nd⟩
  · obtain ⟨s, h1, _⟩ := st l'.length
    rw [← hl, List.getElem?_eq_none (Nat.le_refl _)] at h1
    cases h1
  · have hbl : b < m.length := (List.getElem?_eq_some_iff.mp hb).1
    have n0 := c.n0
    have hmf : m.map (plc p) = (List.range m.length).map f := by
      refine List.ext_getElem? fun i => ?_
      rw [List.getElem?_map, List.getElem?_map]
      by_cases hi : i < m.length
      · have a := hl i (Nat.le_of_lt hi)
        rw [List.getElem?_append_left hi] at a
        obtain ⟨s', h1, h2⟩ := st i
        rw [a, h1, List.getElem?_range hi]
        show some (plc p s') = some (f i)
        rw [h2]
      · rw [List.getElem?_eq_none (by omega), List.getElem?_eq_none (by rw [List.length_range]; omega)]
        rfl
    have fs : f m.length = f b := by
      have a := hl m.length (Nat.le_refl _)
      rw [List.getElem?_append_right (Nat.le_refl _), Nat.sub_self] at a
      obtain ⟨s', h1, h2⟩ := st m.length
      have e1 : s = s' := Option.some.inj (a.trans h1)
      have a2 := hl b (Nat.le_of_lt hbl)
      rw [List.getElem?_append_left hbl, hb] at a2
      obtain ⟨t', h3, h4⟩ := st b
      have e2 : t = t' := Option.some.inj (a2.trans h3)
      rw [← h2, ← h4, ← e1, ← e2, hs, plc_shf]
    have hle : m.length ≤ n := by
      refine Nat.le_of_not_lt fun lt => ?_
      have a1 : (m.map (plc p))[n]? = some (f n) := by rw [hmf, List.getElem?_map, List.getElem?_range lt]; rfl
      have a2 : (m.map (plc p))[0]? = some (f 0) := by rw [hmf, List.getElem?_map, List.getElem?_range (by omega)]; rfl
      have p0 := c.per 0
      rw [Nat.zero_add] at p0
      rw [p0] at a1
      have := (List.getElem?_inj (by rw [List.length_map]; exact lt) nd).mp (a1.trans a2.symm)
      omega
    have hln : m.length = n := by
      refine Nat.le_antisymm hle (Nat.le_of_not_lt fun lt => ?_)
      have := c.inj lt (by omega) fs
      omega
    have b0 : b = 0 := by
      have p0 := c.per 0
      rw [Nat.zero_add, ← hln] at p0
      rw [p0] at fs
      exact (c.inj n0 (by omega) fs).symm
    subst b0
    unfold lpOf
    rw [e']
    refine ⟨?_, rfl⟩
    show some ((m ++ [s]).dropLast.map (plc p)) = _
    rw [List.dropLast_concat, hmf, hln, ← c.eq]
/-- the loop's turn that begins with its least stop -/
def canon (p h : Nat) (os : List Od) (l : List (Nat × Nat)) : List (Nat × Nat) := (lpOf p h os (minS (l.headD (0, 0)) l.tail)).getD []
theorem CycF.turns {p n : Nat} {os : List Od} {l : List (Nat × Nat)} {f : Nat → Nat × Nat} (c : CycF p os l f n) : ∀ i, ∃ l', CycF p os l' (fun j => f (i + j)) n ∧ ∀ x, x ∈ l' ↔ x ∈ l
  | 0 => ⟨l, by simpa using c, fun _ => Iff.rfl⟩
  | i + 1 => by
    obtain ⟨l', c', h'⟩ := c.turns i
    refine ⟨_, ?_, fun x => turn_mem.trans (h' x)⟩
    have := c'.turn
    have e : (fun j => f (i + (j + 1))) = fun j => f (i + 1 + j) := funext fun j => by rw [show i + (j + 1) = i + 1 + j by omega]
    rw [e] at this
    exact this
theorem canon_spec {p h : Nat} {os : List Od} {l : List (Nat × Nat)} (ok : NetOk p h os) (c : Cyc p os l) (hl : ∀ x ∈ l, x.1 < h) :
    Cyc p os (canon p h os l) ∧ hm (canon p h os l) = true ∧ (∀ x, x ∈ canon p h os l ↔ x ∈ l) ∧ ∃ q xs, canon p h os l = q :: xs ∧ lpOf p h os q = some (canon p h os l) ∧ plc p q = q ∧ q.1 < h := by
  obtain ⟨x, xs, rfl⟩ := c.cons
  obtain ⟨f, n, c⟩ := c
  obtain ⟨h1, h2⟩ := minS_spec xs x
  obtain ⟨i, ei⟩ := c.mem.mp h1
  obtain ⟨l', c', hm'⟩ := c.turns i
  have hq : (f (i + 0)).1 < h := by
    rw [Nat.add_zero, ← ei]
    exact hl _ h1
  obtain ⟨g1, _⟩ := cyc_lp ok c' hq
  have ec : canon p h os (x :: xs) = l' := by
    show (lpOf p h os (minS x xs)).getD [] = l'
    rw [ei]
    show (lpOf p h os (f i)).getD [] = l'
    rw [show f i = f (i + 0) from rfl, g1]
    rfl
  rw [ec]
  have h0 : l'[0]? = some (f (i + 0)) := c'.get c'.n0
  obtain ⟨y, ys, rfl⟩ := Cyc.cons ⟨_, _, c'⟩
  obtain rfl : y = f (i + 0) := Option.some.inj h0
  refine ⟨⟨_, _, c'⟩, hm_iff.mpr fun z hz => ?_, hm', _, _, rfl, g1, c.place _, hq⟩
  show ltS z (f i) = false
  rw [← ei]
  exact h2 z ((hm' z).mp hz)
theorem canon_eq {p h : Nat} {os : List Od} {l l' : List (Nat × Nat)} (ok : NetOk p h os) (c : Cyc p os l) (hl : ∀ x ∈ l, x.1 < h) (c' : Cyc p os l') (hm' : hm l' = true) {x : Nat × Nat} (hx : x ∈ l) (hx' : x ∈ l') : canon p h os l = l' := by
  obtain ⟨a1, a2, a3, _⟩ := canon_spec ok c hl
  exact a1.uniq c' a2 hm' ((a3 x).mpr hx) hx'
/-- all letters of a period -/
def lets (p h : Nat) : List (Nat × Nat) := (List.range h).flatMap fun a => (List.range p).map fun d => (a, d)
theorem mem_lets {p h : Nat} {q : Nat × Nat} : q ∈ lets p h ↔ q.1 < h ∧ q.2 < p := by
  unfold lets
  rw [List.mem_flatMap]
  constructor
  · rintro ⟨a, ha, hq⟩
    obtain ⟨d, hd, rfl⟩ := List.mem_map.mp hq
    exact ⟨List.mem_range.mp ha, List.mem_range.mp hd⟩
  · rintro ⟨h1, h2⟩
    exact ⟨q.1, List.mem_range.mpr h1, List.mem_map.mpr ⟨q.2, List.mem_range.mpr h2, rfl⟩⟩
theorem lets_pw {p h : Nat} : (lets p h).Pairwise fun a b => ltS a b = true := by
  unfold lets
  rw [List.pairwise_flatMap]
  refine ⟨fun a _ => ?_, ?_⟩
  · rw [List.pairwise_map]
    exact List.pairwise_lt_range.imp (R := fun x y => x < y) (S := fun d e => ltS (a, d) (a, e) = true) fun {d e} q => ltS_iff.mpr (.inr ⟨rfl, q⟩)
  · refine List.pairwise_lt_range.imp fun {a b} q => ?_
    intro x hx y hy
    obtain ⟨_, _, rfl⟩ := List.mem_map.mp hx
    obtain ⟨_, _, rfl⟩ := List.mem_map.mp hy
    exact ltS_iff.mpr (.inl q)
theorem lets_plc {p h : Nat} {q : Nat × Nat} (hq : q ∈ lets p h) : plc p q = q := by
  obtain ⟨_, h2⟩ := mem_lets.mp hq
  unfold plc
  rw [Nat.mod_eq_of_lt h2]
theorem lets_len {p h : Nat} : (lets p h).length = h * p := by
  unfold lets
  rw [List.length_flatMap]
  simp only [List.length_map, List.length_range]
  induction h with
  | zero => simp
  | succ h ih => rw [List.range_succ, List.map_append, List.sum_append, ih, Nat.succ_mul]; simp
/-- the loop that a letter's least stop begins -/
def goodL (p h : Nat) (os : List Od) (q : Nat × Nat) : Option (List (Nat × Nat)) := match lpOf p h os q with
  | some l => if hm l = true then some l else none
  | none => none
def loopsN (p h : Nat) (os : List Od) : List (List (Nat × Nat)) := (lets p h).filterMap (goodL p h os)
theorem goodL_some {p h : Nat} {os : List Od} {q : Nat × Nat} {l : List (Nat × Nat)} (e : goodL p h os q = some l) : lpOf p h os q = some l ∧ hm l = true := by
  unfold goodL at e
  split at e
  · rename_i l' e'
    split at e
    · rename_i hm'
      obtain rfl := Option.some.inj e
      exact ⟨e', hm'⟩
    · cases e
  · cases e
theorem goodL_of {p h : Nat} {os : List Od} {q : Nat × Nat} {l : List (Nat × Nat)} (e : lpOf p h os q = some l) (hm' : hm l = true) : goodL p h os q = some l := by
  unfold goodL
  rw [e]
  exact if_pos hm'
theorem mem_loopsN {p h : Nat} {os : List Od} (ok : NetOk p h os) {l : List (Nat × Nat)} : l ∈ loopsN p h os ↔ Cyc p os l ∧ hm l = true ∧ ∀ x ∈ l, x.1 < h := by
  unfold loopsN
  rw [List.mem_filterMap]
  constructor
  · rintro ⟨q, hq, e⟩
    obtain ⟨e1, e2⟩ := goodL_some e
    obtain ⟨c, hx, _⟩ := lp_cyc ok (mem_lets.mp hq).1 e1
    exact ⟨c, e2, hx⟩
  · rintro ⟨⟨f, n, c⟩, hm', hx⟩
    have h0 : f 0 ∈ l := c.mem.mpr ⟨0, rfl⟩
    have hp : (f 0).2 < p := by
      have := c.place 0
      have e : (f 0).2 % p = (f 0).2 := congrArg Prod.snd this
      rw [← e]
      exact Nat.mod_lt _ ok.p1
    exact ⟨f 0, mem_lets.mpr ⟨hx _ h0, hp⟩, goodL_of (cyc_lp ok c (hx _ h0)).1 hm'⟩
theorem loopsN_pw {p h : Nat} {os : List Od} (ok : NetOk p h os) : (loopsN p h os).Pairwise fun a b => ltS (a.headD (0, 0)) (b.headD (0, 0)) = true := by
  unfold loopsN
  rw [List.pairwise_filterMap]
  refine List.Pairwise.imp_of_mem ?_ (lets_pw (p := p) (h := h))
  intro a b ha hb q l el l' el'
  obtain ⟨_, _, xs, rfl⟩ := lp_cyc ok (mem_lets.mp ha).1 (goodL_some el).1
  obtain ⟨_, _, ys, rfl⟩ := lp_cyc ok (mem_lets.mp hb).1 (goodL_some el').1
  show ltS (plc p a) (plc p b) = true
  rw [lets_plc ha, lets_plc hb]
  exact q
theorem loopsN_nd {p h : Nat} {os : List Od} (ok : NetOk p h os) : (loopsN p h os).Nodup := (loopsN_pw ok).imp fun {a b} q e => by
  subst e
  have := ltS_iff.mp q
  omega
/-- what the law finds, letter by letter -/
def fndF (p h : Nat) (os : List Od) (acc : List (List (Nat × Nat))) (q : Nat × Nat) : List (List (Nat × Nat)) := match rawOf p h os q with
  | none => acc
  | some l => if canon p h os l ∈ acc then acc else acc ++ [canon p h os l]
def fnd (p h : Nat) (os : List Od) (qs : List (Nat × Nat)) : List (List (Nat × Nat)) := qs.foldl (fndF p h os) []
theorem fnd_snoc {p h : Nat} {os : List Od} {qs : List (Nat × Nat)} {q : Nat × Nat} : fnd p h os (qs ++ [q]) = fndF p h os (fnd p h os qs) q := by
  unfold fnd
  rw [List.foldl_append]
  rfl
theorem fndF_mem {p h : Nat} {os : List Od} {acc : List (List (Nat × Nat))} {q : Nat × Nat} {l : List (Nat × Nat)} : l ∈ fndF p h os acc q ↔ l ∈ acc ∨ ∃ r, rawOf p h os q = some r ∧ canon p h os r = l := by
  unfold fndF
  cases e : rawOf p h os q with
  | none => simp
  | some r =>
    show l ∈ (if canon p h os r ∈ acc then acc else acc ++ [canon p h os r]) ↔ _
    split
    · rename_i hm'
      constructor
      · exact .inl
      · rintro (a | ⟨r', e', rfl⟩)
        · exact a
        · cases e'
          exact hm'
    · rw [List.mem_append, List.mem_singleton]
      constructor
      · rintro (a | a)
        · exact .inl a
        · exact .inr ⟨r, rfl, a.symm⟩
      · rintro (a | ⟨r', e', a⟩)
        · exact .inl a
        · cases e'
          exact .inr a.symm
theorem fndF_nd {p h : Nat} {os : List Od} {acc : List (List (Nat × Nat))} {q : Nat × Nat} (nd : acc.Nodup) : (fndF p h os acc q).Nodup := by
  unfold fndF
  split
  · exact nd
  · rename_i r _
    split
    · exact nd
    · rename_i hno
      rw [List.nodup_append]
      refine ⟨nd, List.nodup_cons.mpr ⟨by simp, List.nodup_nil⟩, fun a ha b hb e => ?_⟩
      rw [List.mem_singleton.mp hb] at e
      exact hno (e ▸ ha)
theorem fnd_spec {p h : Nat} {os : List Od} (qs : List (Nat × Nat)) : ∀ acc : List (List (Nat × Nat)), acc.Nodup → (qs.foldl (fndF p h os) acc).Nodup ∧ ∀ l, l ∈ qs.foldl (fndF p h os) acc ↔ l ∈ acc ∨ ∃ q ∈ qs, ∃ r, rawOf p h os q = some r ∧ canon p h os r = l := by
  induction qs with
  | nil => exact fun acc nd => ⟨nd, fun l => by simp⟩
  | cons q qs ih =>
    intro acc nd
    obtain ⟨h1, h2⟩ := ih (fndF p h os acc q) (fndF_nd nd)
    refine ⟨h1, fun l => ?_⟩
    rw [List.foldl_cons, h2, fndF_mem]
    constructor
    · rintro ((a | a) | ⟨q', hq', a⟩)
      · exact .inl a
      · exact .inr ⟨q, List.mem_cons_self, a⟩
      · exact .inr ⟨q', List.mem_cons_of_mem _ hq', a⟩
    · rintro (a | ⟨q', hq', a⟩)
      · exact .inl (.inl a)
      · rcases List.mem_cons.mp hq' with rfl | z
        · exact .inl (.inr a)
        · exact .inr ⟨q', z, a⟩
theorem fnd_perm {p h : Nat} {os : List Od} (ok : NetOk p h os) : (fnd p h os (lets p h)).Perm (loopsN p h os) := by
  obtain ⟨h1, h2⟩ := fnd_spec (p := p) (h := h) (os := os) (lets p h) [] List.nodup_nil
  refine (List.perm_ext_iff_of_nodup h1 (loopsN_nd ok)).mpr fun l => ?_
  rw [h2]
  constructor
  · rintro (a | ⟨q, hq, r, e, rfl⟩)
    · cases a
    · obtain ⟨c, hx, _⟩ := raw_cycF ok (mem_lets.mp hq).1 e
      obtain ⟨a1, a2, a3, _⟩ := canon_spec ok c hx
      exact (mem_loopsN ok).mpr ⟨a1, a2, fun x hx' => hx x ((a3 x).mp hx')⟩
  · intro hl
    obtain ⟨c, hm', hx⟩ := (mem_loopsN ok).mp hl
    obtain ⟨q, hq, e⟩ := List.mem_filterMap.mp hl
    obtain ⟨x, xs, rfl⟩ := c.cons
    exact .inr ⟨q, hq, _, lp_raw (goodL_some e).1, canon_eq ok c hx c hm' List.mem_cons_self List.mem_cons_self⟩
/-- loops that share a stop are one -/
theorem loopsN_share {p h : Nat} {os : List Od} (ok : NetOk p h os) {l l' : List (Nat × Nat)} {x : Nat × Nat} (hl : l ∈ loopsN p h os) (hl' : l' ∈ loopsN p h os) (hx : x ∈ l) (hx' : x ∈ l') : l = l' := by
  obtain ⟨c, m1, _⟩ := (mem_loopsN ok).mp hl
  obtain ⟨c', m2, _⟩ := (mem_loopsN ok).mp hl'
  exact c.uniq c' m1 m2 hx hx'
/-! ### pairs as data: their order and their least -/
section
open PySem.W (alike alikeAll dataLt minD AlikeAll)
theorem plD_alike (s t : Nat × Nat) : alike (plD s) (plD t) = true := by
  simp [plD, alike, alikeAll]
theorem plDs_alike (l : List (Nat × Nat)) : AlikeAll (l.map plD) := by
  refine ⟨fun x hx y hy => ?_, fun x hx => ?_⟩
  · obtain ⟨s, _, rfl⟩ := List.mem_map.mp hx
    obtain ⟨t, _, rfl⟩ := List.mem_map.mp hy
    exact plD_alike s t
  · obtain ⟨s, _, rfl⟩ := List.mem_map.mp hx
    intro e
    cases e
theorem int_eqv (a b : Int) : PyData.eqv (.int a) (.int b) = decide (a = b) := by
  by_cases h : a = b <;> simp [PyData.eqv, h]
theorem dataLt_pl (s t : Nat × Nat) : dataLt (plD s) (plD t) = ltS s t := by
  unfold plD ltS
  rw [PySem.W.dataLt_tuple]
  by_cases e1 : s.1 = t.1
  · rw [if_pos e1, PySem.W.dataLt_all_yes (by simp [alike]) (by rw [int_eqv, e1]; exact decide_eq_true rfl)]
    by_cases e2 : s.2 = t.2
    · rw [PySem.W.dataLt_all_yes (by simp [alike]) (by rw [int_eqv, e2]; exact decide_eq_true rfl), e2, decide_eq_false (Nat.lt_irrefl _)]
      simp [PySem.W.keyToksAll, PyProof.Rows.lexLt]
      rfl
    · rw [PySem.W.dataLt_all_no (by simp [alike]) (by rw [int_eqv]; exact decide_eq_false (by omega)), PySem.W.dataLt_int]
      by_cases c : s.2 < t.2
      · rw [decide_eq_true c, decide_eq_true (by omega)]
      · rw [decide_eq_false c, decide_eq_false (by omega)]
  · rw [if_neg e1, PySem.W.dataLt_all_no (by simp [alike]) (by rw [int_eqv]; exact decide_eq_false (by omega)), PySem.W.dataLt_int]
    by_cases c : s.1 < t.1
    · rw [decide_eq_true c, decide_eq_true (by omega)]
    · rw [decide_eq_false c, decide_eq_false (by omega)]
theorem minD_pl : ∀ (xs : List (Nat × Nat)) (x : Nat × Nat), minD (plD x) (xs.map plD) = plD (minS x xs)
  | [], x => rfl
  | y :: ys, x => by
    show minD (if dataLt (plD y) (plD x) = true then plD y else plD x) (ys.map plD) = plD (minS (if ltS y x then y else x) ys)
    rw [dataLt_pl]
    by_cases c : ltS y x = true
    · rw [if_pos c, if_pos c]
      exact minD_pl ys y
    · rw [if_neg c, if_neg c]
      exact minD_pl ys x
theorem plD_inj {s t : Nat × Nat} (e : plD s = plD t) : s = t := by
  have h := plD_eqv s t
  rw [← e] at h
  rw [PySem.SeqAt.eqv_refl _ (PySem.SeqAt.canLay_of_shaped (plD_shaped s))] at h
  exact of_decide_eq_true h.symm
/-- min of a list of stops -/
theorem min_depth (x : Nat × Nat) (xs : List (Nat × Nat)) : PyData.depthAll (plD x :: xs.map plD) ≤ 60 := by
  have := plDs_depth (x :: xs)
  rw [List.map_cons] at this
  omega
theorem min_at {H : Hp} {ws : List V} {x : Nat × Nat} {xs : List (Nat × Nat)} {i : Nat} {v : V} (hw : Paired (StopAt H) ws (x :: xs)) (hi : ws[i]? = some v) (he : (plD x :: xs.map plD)[i]? = some (minD (plD x) (xs.map plD))) : StopAt H v (minS x xs) := by
  have hil : i < (x :: xs).length := by rw [← hw.length]; exact (List.getElem?_eq_some_iff.mp hi).1
  obtain ⟨v', hv', hs⟩ := Paired.get? (i := i) hw (List.getElem?_eq_getElem hil)
  obtain rfl : v' = v := Option.some.inj (hv'.symm.trans hi)
  have e2 : ((x :: xs).map plD)[i]? = some (plD (x :: xs)[i]) := by rw [List.getElem?_map, List.getElem?_eq_getElem hil]; rfl
  rw [List.map_cons, he, minD_pl] at e2
  rw [plD_inj (Option.some.inj e2)]
  exact hs
end
/-! ### where letters are delivered: plain mathematics -/
def dst (p h : Nat) (os : List Od) (st : Nat × Nat) : Option (Nat × Nat) := destOf (folR p h os st)
theorem stp_none_add {p : Nat} {os : List Od} {i : Nat} {st : Nat × Nat} (e : stp p os i st = none) (k : Nat) : stp p os (i + k) st = none := by
  rw [stp_add, e]
  rfl
theorem stp_succ_none {p : Nat} {os : List Od} {j : Nat} {st c : Nat × Nat} (h1 : stp p os j st = some c) (h2 : hop p os c = none) : stp p os (j + 1) st = none := by
  show (stp p os j st).bind (hop p os) = none
  rw [h1]
  exact h2
theorem dst_iff {p h : Nat} {os : List Od} {st c : Nat × Nat} (ok : NetOk p h os) (hh : st.1 < h) : dst p h os st = some c ↔ ∃ j, stp p os j st = some c ∧ hop p os c = none := by
  unfold dst
  rcases folR_cases ok hh with ⟨l, e, hne, hl, _⟩ | ⟨m, s, b, t, k, e, hl, hb, hs, hk, _⟩
  · rw [e]
    show l.getLast? = some c ↔ _
    have hlen : 0 < l.length := List.length_pos_iff.mpr hne
    have hend : stp p os l.length st = none := by
      rw [← hl]
      exact List.getElem?_eq_none_iff.mpr (Nat.le_refl _)
    have hlast : l.getLast? = stp p os (l.length - 1) st := by rw [← hl, List.getLast?_eq_getElem?]
    rw [hlast]
    constructor
    · intro h1
      refine ⟨_, h1, ?_⟩
      have e2 : (stp p os (l.length - 1) st).bind (hop p os) = none := by
        have e1 : stp p os (l.length - 1 + 1) st = none := by rw [Nat.sub_add_cancel hlen]; exact hend
        exact e1
      rw [h1] at e2
      exact e2
    · rintro ⟨j, h1, h2⟩
      have e3 := stp_succ_none h1 h2
      have hj : j < l.length := by
        rcases Nat.lt_or_ge j l.length with z | z
        · exact z
        · have := stp_none_add hend (j - l.length)
          rw [show l.length + (j - l.length) = j by omega, h1] at this
          cases this
      have hj2 : ¬ j + 1 < l.length := fun z => by
        have := hl (j + 1)
        rw [e3, List.getElem?_eq_getElem z] at this
        cases this
      rw [show l.length - 1 = j by omega]
      exact h1
  · rw [e]
    show (none : Option (Nat × Nat)) = some c ↔ _
    constructor
    · intro z
      cases z
    · rintro ⟨j, h1, h2⟩
      exfalso
      have hbl : b < m.length := (List.getElem?_eq_some_iff.mp hb).1
      have g1 : stp p os b st = some t := by
        rw [← hl b (Nat.le_of_lt hbl), List.getElem?_append_left hbl]
        exact hb
      have g2 : stp p os (b + (m.length - b)) st = some (shf (p * k) t) := by
        rw [show b + (m.length - b) = m.length by omega, ← hl _ (Nat.le_refl _), List.getElem?_append_right (Nat.le_refl _), Nat.sub_self, hs]
        rfl
      have hr := stp_round (N := m.length - b) (k0 := k) rfl g1 g2 (j + 1) 0
      have n1 : 1 ≤ m.length - b := by omega
      have n2 : 1 * (j + 1) ≤ (m.length - b) * (j + 1) := Nat.mul_le_mul_right _ n1
      have e3 := stp_none_add (stp_succ_none h1 h2) (b + 0 + (m.length - b) * (j + 1) - (j + 1))
      rw [show j + 1 + (b + 0 + (m.length - b) * (j + 1) - (j + 1)) = b + 0 + (m.length - b) * (j + 1) by omega, hr, show stp p os (b + 0) st = some t from g1] at e3
      cases e3
theorem dst_end {p h : Nat} {os : List Od} {st : Nat × Nat} (ok : NetOk p h os) (hh : st.1 < h) (e : hop p os st = none) : dst p h os st = some st := (dst_iff ok hh).mpr ⟨0, rfl, e⟩
theorem dst_stp {p h : Nat} {os : List Od} {st s : Nat × Nat} {i : Nat} (ok : NetOk p h os) (hh : st.1 < h) (e : stp p os i st = some s) : dst p h os st = dst p h os s := by
  have hs := pst_house ok hh i e
  apply Option.ext
  intro c
  rw [dst_iff ok hh, dst_iff ok hs]
  constructor
  · rintro ⟨j, h1, h2⟩
    by_cases z : i ≤ j
    · refine ⟨j - i, ?_, h2⟩
      rw [show j = i + (j - i) by omega, stp_add, e] at h1
      exact h1
    · have e3 := stp_none_add (stp_succ_none h1 h2) (i - (j + 1))
      rw [show j + 1 + (i - (j + 1)) = i by omega, e] at e3
      cases e3
  · rintro ⟨j, h1, h2⟩
    refine ⟨i + j, ?_, h2⟩
    rw [stp_add, e]
    exact h1
theorem hop_shf_none {p : Nat} {os : List Od} {k : Nat} {s : Nat × Nat} : hop p os (shf (p * k) s) = none ↔ hop p os s = none := by
  rw [hop_shf, Option.map_eq_none_iff]
theorem dst_shf {p h : Nat} {os : List Od} {st : Nat × Nat} {k : Nat} (ok : NetOk p h os) (hh : st.1 < h) : dst p h os (shf (p * k) st) = (dst p h os st).map (shf (p * k)) := by
  apply Option.ext
  intro c
  rw [dst_iff ok (show (shf (p * k) st).1 < h from hh), Option.map_eq_some_iff]
  constructor
  · rintro ⟨j, h1, h2⟩
    rw [stp_shf] at h1
    obtain ⟨c', h3, rfl⟩ := Option.map_eq_some_iff.mp h1
    exact ⟨c', (dst_iff ok hh).mpr ⟨j, h3, hop_shf_none.mp h2⟩, rfl⟩
  · rintro ⟨c', h1, rfl⟩
    obtain ⟨j, h3, h4⟩ := (dst_iff ok hh).mp h1
    exact ⟨j, by rw [stp_shf, h3]; rfl, hop_shf_none.mpr h4⟩
theorem dst_cycle {p h : Nat} {os : List Od} {st : Nat × Nat} {i k : Nat} (ok : NetOk p h os) (hh : st.1 < h) (e : stp p os i st = some (shf (p * k) st)) (hk : 0 < p * k) : dst p h os st = none := by
  have h1 := dst_stp ok hh e
  rw [dst_shf ok hh] at h1
  cases q : dst p h os st with
  | none => rfl
  | some c =>
    rw [q] at h1
    have h2 : c.2 = c.2 + p * k := congrArg Prod.snd (Option.some.inj h1)
    omega
theorem dst_le {p h : Nat} {os : List Od} {st c : Nat × Nat} (ok : NetOk p h os) (hh : st.1 < h) (e : dst p h os st = some c) : st.2 ≤ c.2 := by
  obtain ⟨j, h1, _⟩ := (dst_iff ok hh).mp e
  cases j with
  | zero =>
    cases h1
    exact Nat.le_refl _
  | succ j => exact Nat.le_of_lt (stp_more (i := 0) (k := j) ok rfl (by rw [Nat.zero_add]; exact h1))
theorem dst_house {p h : Nat} {os : List Od} {st c : Nat × Nat} (ok : NetOk p h os) (hh : st.1 < h) (e : dst p h os st = some c) : c.1 < h := by
  obtain ⟨j, h1, _⟩ := (dst_iff ok hh).mp e
  exact pst_house ok hh j h1
theorem dst_plc {p h : Nat} {os : List Od} {st : Nat × Nat} (ok : NetOk p h os) (hh : st.1 < h) : dst p h os st = (dst p h os (plc p st)).map (shf (p * (st.2 / p))) := by
  rw [← dst_shf ok (show (plc p st).1 < h from hh), ← shf_plc]
/-- the goal of a letter, and how many days it takes -/
def wayOf (p h : Nat) (os : List Od) (s : Nat × Nat) : Option (Nat × Nat) := (dst p h os s).map fun g => (g.1, g.2 - s.2)
theorem wayOf_dst {p h : Nat} {os : List Od} {s : Nat × Nat} (ok : NetOk p h os) (hh : s.1 < h) : dst p h os s = (wayOf p h os s).map fun g => (g.1, s.2 + g.2) := by
  unfold wayOf
  rw [Option.map_map]
  cases q : dst p h os s with
  | none => rfl
  | some c =>
    have := dst_le ok hh q
    show some c = some (c.1, s.2 + (c.2 - s.2))
    rw [show s.2 + (c.2 - s.2) = c.2 by omega]
theorem wayOf_plc {p h : Nat} {os : List Od} {s : Nat × Nat} (ok : NetOk p h os) (hh : s.1 < h) : wayOf p h os (plc p s) = wayOf p h os s := by
  unfold wayOf
  rw [dst_plc ok hh, Option.map_map]
  cases q : dst p h os (plc p s) with
  | none => rfl
  | some c =>
    show some (c.1, c.2 - s.2 % p) = some (c.1, c.2 + p * (s.2 / p) - s.2)
    have := Nat.div_add_mod s.2 p
    rw [show c.2 + p * (s.2 / p) - s.2 = c.2 - s.2 % p by omega]
theorem dst_way {p h : Nat} {os : List Od} {s : Nat × Nat} (ok : NetOk p h os) (hh : s.1 < h) : dst p h os s = (wayOf p h os (plc p s)).map fun g => (g.1, s.2 + g.2) := by
  rw [wayOf_plc ok hh]
  exact wayOf_dst ok hh
/-- the table of ways: keys and values -/
def wkv (p : Nat) (ks : List (Nat × Nat)) (f : Nat × Nat → V) : List (List Key × V) := ks.map fun s => (keyOf p s, f s)
def setF (f : Nat × Nat → V) (q : Nat × Nat) (v : V) : Nat × Nat → V := fun s => if s = q then v else f s
theorem key_plc {p : Nat} {s : Nat × Nat} : keyOf p (plc p s) = keyOf p s := keyOf_eq.mpr (plc_plc s)
theorem key_at {p : Nat} {q s : Nat × Nat} (hq : plc p q = q) : keyOf p q = keyOf p s ↔ q = plc p s := by
  rw [keyOf_eq, hq]
theorem wkv_val {p : Nat} {f : Nat × Nat → V} {s : Nat × Nat} : ∀ {ks : List (Nat × Nat)}, (∀ q ∈ ks, plc p q = q) → valV (wkv p ks f) (keyOf p s) = if plc p s ∈ ks then some (f (plc p s)) else none
  | [], _ => rfl
  | q :: ks, h => by
    have hq := h q List.mem_cons_self
    have ih := wkv_val (p := p) (f := f) (s := s) fun r hr => h r (List.mem_cons_of_mem _ hr)
    by_cases c : q = plc p s
    · rw [if_pos (by rw [c]; exact List.mem_cons_self)]
      show valV ((keyOf p q, f q) :: wkv p ks f) (keyOf p s) = _
      rw [valV_pos ((key_at hq).mpr c), c]
    · show valV ((keyOf p q, f q) :: wkv p ks f) (keyOf p s) = _
      rw [valV_neg fun z => c ((key_at hq).mp z), ih]
      by_cases m : plc p s ∈ ks
      · rw [if_pos m, if_pos (List.mem_cons_of_mem _ m)]
      · rw [if_neg m, if_neg fun z => (List.mem_cons.mp z).elim (fun e => c e.symm) m]
theorem wkv_ext {p : Nat} {f g : Nat × Nat → V} {ks : List (Nat × Nat)} (h : ∀ q ∈ ks, f q = g q) : wkv p ks f = wkv p ks g := by
  unfold wkv
  exact List.map_congr_left fun q hq => by rw [h q hq]
theorem wkv_new {p : Nat} {f : Nat × Nat → V} {s : Nat × Nat} {v : V} {ks : List (Nat × Nat)} (h : ∀ q ∈ ks, plc p q = q) (hn : plc p s ∉ ks) : putK (wkv p ks f) (keyOf p s) v = wkv p (ks ++ [plc p s]) (setF f (plc p s) v) := by
  rw [Cp.putK_new (by rw [wkv_val h, if_neg hn])]
  show _ = wkv p (ks ++ [plc p s]) _
  unfold wkv
  rw [List.map_append]
  congr 1
  · exact List.map_congr_left fun q hq => by
      show (keyOf p q, f q) = (keyOf p q, if q = plc p s then v else f q)
      rw [if_neg fun e : q = plc p s => hn (e ▸ hq)]
  · show [(keyOf p s, v)] = [(keyOf p (plc p s), setF f (plc p s) v (plc p s))]
    unfold setF
    rw [if_pos rfl, key_plc]
theorem wkv_old {p : Nat} {f : Nat × Nat → V} {s : Nat × Nat} {v : V} {ks : List (Nat × Nat)} (h : ∀ q ∈ ks, plc p q = q) (hn : plc p s ∈ ks) : putK (wkv p ks f) (keyOf p s) v = wkv p ks (setF f (plc p s) v) := by
  unfold putK
  have e : ((wkv p ks f).any fun kv => decide (kv.1 = keyOf p s)) = true := by
    rw [valV_any, wkv_val h, if_pos hn]
    rfl
  rw [if_pos e]
  unfold wkv
  rw [List.map_map]
  refine List.map_congr_left fun q hq => ?_
  show (if keyOf p q = keyOf p s then (keyOf p q, v) else (keyOf p q, f q)) = (keyOf p q, setF f (plc p s) v q)
  unfold setF
  by_cases c : q = plc p s
  · rw [if_pos ((key_at (h q hq)).mpr c), if_pos c]
  · rw [if_neg fun z => c ((key_at (h q hq)).mp z), if_neg c]
/-! ### comprehensions that choose from a range, or from a list of numbers -/
theorem take_filter {α : Type} {f : α → Bool} {l : List α} {i : Nat} {q : α} (e : l[i]? = some q) : (l.take (i + 1)).filter f = (l.take i).filter f ++ (if f q = true then [q] else []) := by
  rw [List.take_add_one, e, List.filter_append]
  by_cases c : f q = true <;> simp [c]
theorem nints_len {l : List Nat} : (nints l).length = l.length := by
  unfold nints
  rw [List.length_map]
theorem nints_app {l m : List Nat} : nints (l ++ m) = nints l ++ nints m := by
  unfold nints
  rw [List.map_append]
theorem nints_V {l : List Nat} : nints l = (l.map fun (n : Nat) => (n : Int)).map V.int := by
  unfold nints
  rw [List.map_map]
  rfl
theorem nints_get {l : List Nat} {i : Nat} {v : V} (h : (nints l)[i]? = some v) : ∃ n, l[i]? = some n ∧ v = .int (n : Nat) := by
  unfold nints at h
  rw [List.getElem?_map, Option.map_eq_some_iff] at h
  obtain ⟨n, h1, h2⟩ := h
  exact ⟨n, h1, h2.symm⟩
theorem lc_rfilt {m : Int} {n v : Nat} {tt : TT} {σ : L2.St} {H1 : Hp} {D : Addr} {Qd : Hp → Prop} (f : Nat → Bool) (hm : m.toNat = n) (hn : n ≤ 1000)
    (hw : ∀ x, wipe ((wipe σ [v]).set v x) [v] = wipe σ [v]) (hv : ∀ x, ((wipe σ [v]).set v x)[v]? = some x)
    (ht : ∀ (i : Nat) l (Q : Bool → Hp → Prop), i < n → Q (f i) (upd H1 D (.lst l)) → tt ((wipe σ [v]).set v (some (.int (i : Nat)))) (upd H1 D (.lst l)) Q)
    (hd : Qd (upd H1 D (.lst (nints ((List.range n).filter f))))) :
    ∃ W : Nat → Nat → Hp → Prop, (∃ k, W 0 k (upd H1 D (.lst []))) ∧ ∀ i k H, W i k H →
      ((Itr 0 m.toNat).stop i H ∧ Qd H) ∨ ((Itr 0 m.toNat).go i H ∧ ∃ Nx : Hp → Prop, (∀ H', Nx H' → ∃ k', k' < k ∧ W (i + 1) k' H') ∧ ∀ x H', (Itr 0 m.toNat).yld i H x H' → gName v x (wipe σ [v]) H' fun σ2 H2 => wipe σ2 [v] = wipe σ [v] ∧ tt σ2 H2 fun b H3 =>
        if b = true then tVar v σ2 H3 fun y H4 => ∃ acc, H4 D = some (.lst acc) ∧ acc.length < sizeLine ∧ Nx (upd H4 D (.lst (acc ++ [y]))) else Nx H3) := by
  subst hm
  refine lc_range (lo := 0) (n := m.toNat) (fun i H' => H' = upd H1 D (.lst (nints ((List.range i).filter f)))) rfl ?_ (fun H' e => by rw [e]; exact hd)
  rintro i H' hi rfl
  rw [show (0 : Int) + (i : Int) = (i : Nat) from Int.zero_add _]
  refine ⟨hw _, ht i _ _ hi ?_⟩
  rw [filter_range_succ']
  by_cases c : f i = true
  · rw [c, if_pos rfl, if_pos rfl]
    refine ⟨_, hv _, _, upd_same, ?_, ?_⟩
    · rw [nints_len]
      exact small1000 (Nat.le_trans (List.length_filter_le _ _) (by rw [List.length_range]; omega))
    · rw [upd_upd, nints_app]
      rfl
  · rw [Bool.eq_false_iff.mpr c, if_neg Bool.false_ne_true, if_neg Bool.false_ne_true, List.append_nil]
theorem lc_lfilt {K : PySem.W.Frag} {a : Addr} {l : List Nat} {v : Nat} {tt : TT} {σ : L2.St} {H1 : Hp} {D : Addr} {Qd : Hp → Prop} (f : Nat → Bool) (hn : l.length ≤ 1000) (ha : H1 a = some (.lst (nints l))) (naD : a ≠ D)
    (hw : ∀ x, wipe ((wipe σ [v]).set v x) [v] = wipe σ [v]) (hv : ∀ x, ((wipe σ [v]).set v x)[v]? = some x)
    (ht : ∀ (i k : Nat) us (Q : Bool → Hp → Prop), l[i]? = some k → Q (f k) (upd H1 D (.lst us)) → tt ((wipe σ [v]).set v (some (.int (k : Nat)))) (upd H1 D (.lst us)) Q)
    (hd : Qd (upd H1 D (.lst (nints (l.filter f))))) :
    ∃ W : Nat → Nat → Hp → Prop, (∃ k, W 0 k (upd H1 D (.lst []))) ∧ ∀ i k H, W i k H →
      ((Itl K a).stop i H ∧ Qd H) ∨ ((Itl K a).go i H ∧ ∃ Nx : Hp → Prop, (∀ H', Nx H' → ∃ k', k' < k ∧ W (i + 1) k' H') ∧ ∀ x H', (Itl K a).yld i H x H' → gName v x (wipe σ [v]) H' fun σ2 H2 => wipe σ2 [v] = wipe σ [v] ∧ tt σ2 H2 fun b H3 =>
        if b = true then tVar v σ2 H3 fun y H4 => ∃ acc, H4 D = some (.lst acc) ∧ acc.length < sizeLine ∧ Nx (upd H4 D (.lst (acc ++ [y]))) else Nx H3) := by
  refine lc_list (K := K) (a := a) (xs := nints l) (fun i H' => H' = upd H1 D (.lst (nints ((l.take i).filter f)))) rfl (fun i H' _ e => by rw [e]; exact SqL.of ((upd_ne naD).trans ha)) ?_ (fun H' e => by
    rw [e, nints_len, List.take_of_length_le (Nat.le_refl _)]
    exact hd)
  rintro i x H' hi rfl
  obtain ⟨k, hk, rfl⟩ := nints_get hi
  refine ⟨hw _, ht i k _ _ hk ?_⟩
  have il := (List.getElem?_eq_some_iff.mp hk).1
  rw [take_filter hk]
  by_cases c : f k = true
  · rw [c, if_pos rfl, if_pos rfl]
    refine ⟨_, hv _, _, upd_same, ?_, ?_⟩
    · rw [nints_len]
      exact small1000 (Nat.le_trans (List.length_filter_le _ _) (by rw [List.length_take]; omega))
    · rw [upd_upd, nints_app]
      rfl
  · rw [Bool.eq_false_iff.mpr c, if_neg Bool.false_ne_true, if_neg Bool.false_ne_true, List.append_nil]
theorem lc_rfiltS {m : Int} {n v : Nat} {tt : TT} {σ : L2.St} {H1 : Hp} {D : Addr} {Qd : Hp → Prop} (f : Nat → Bool) (hm : m.toNat = n) (hn : n ≤ 1000) (nD : H1 D = none)
    (hw : ∀ x, wipe ((wipe σ [v]).set v x) [v] = wipe σ [v]) (hv : ∀ x, ((wipe σ [v]).set v x)[v]? = some x)
    (ht : ∀ (i : Nat) H2 (Q : Bool → Hp → Prop), i < n → Same H1 H2 → (∀ H3, Same H2 H3 → Q (f i) H3) → tt ((wipe σ [v]).set v (some (.int (i : Nat)))) H2 Q)
    (hd : ∀ H', Same H1 H' → H' D = some (.lst (nints ((List.range n).filter f))) → Qd H') :
    ∃ W : Nat → Nat → Hp → Prop, (∃ k, W 0 k (upd H1 D (.lst []))) ∧ ∀ i k H, W i k H →
      ((Itr 0 m.toNat).stop i H ∧ Qd H) ∨ ((Itr 0 m.toNat).go i H ∧ ∃ Nx : Hp → Prop, (∀ H', Nx H' → ∃ k', k' < k ∧ W (i + 1) k' H') ∧ ∀ x H', (Itr 0 m.toNat).yld i H x H' → gName v x (wipe σ [v]) H' fun σ2 H2 => wipe σ2 [v] = wipe σ [v] ∧ tt σ2 H2 fun b H3 =>
        if b = true then tVar v σ2 H3 fun y H4 => ∃ acc, H4 D = some (.lst acc) ∧ acc.length < sizeLine ∧ Nx (upd H4 D (.lst (acc ++ [y]))) else Nx H3) := by
  subst hm
  refine lc_range (lo := 0) (n := m.toNat) (fun i H' => Same H1 H' ∧ H' D = some (.lst (nints ((List.range i).filter f)))) ⟨same_upd nD, upd_same⟩ ?_ (fun H' e => hd H' e.1 e.2)
  rintro i H' hi ⟨s', hD⟩
  rw [show (0 : Int) + (i : Int) = (i : Nat) from Int.zero_add _]
  refine ⟨hw _, ht i _ _ hi s' fun H3 s3 => ?_⟩
  have hD3 := s3 _ _ hD
  rw [filter_range_succ']
  by_cases c : f i = true
  · rw [c, if_pos rfl, if_pos rfl]
    refine ⟨_, hv _, _, hD3, ?_, fun b o e => ?_, ?_⟩
    · rw [nints_len]
      exact small1000 (Nat.le_trans (List.length_filter_le _ _) (by rw [List.length_range]; omega))
    · rw [upd_ne (ne_of_none e nD)]
      exact s3 _ _ (s' _ _ e)
    · rw [upd_same, nints_app]
      rfl
  · rw [Bool.eq_false_iff.mpr c, if_neg Bool.false_ne_true, if_neg Bool.false_ne_true, List.append_nil]
    exact ⟨s'.trans s3, hD3⟩
/-! ### results and lists of stops as data -/
section
open PySem.W (alike alikeAll dataLt AllAlike Sortable dataLe)
theorem plD_depth (b : Nat × Nat) : (plD b).depth ≤ 60 := by
  have e : (plD b).depth = 1 := by simp [plD, PyData.depth, PyData.depthAll]
  omega
def optD : Option (Nat × Nat) → PyData
  | none => .none
  | some s => plD s
theorem opt_dp {K : PySem.W.Frag} {H : Hp} {v : V} {o : Option (Nat × Nat)} (h : OptStop H v o) : Dp K H v (optD o) := by
  cases o with
  | none =>
    obtain rfl : v = .non := h
    exact .non
  | some s => exact stop_dp h
theorem optD_shaped (o : Option (Nat × Nat)) : PySem.SeqAt.shaped (optD o) = true := by
  cases o with
  | none => rfl
  | some s => exact plD_shaped s
theorem optD_eqv (a b : Option (Nat × Nat)) : PyData.eqv (optD a) (optD b) = decide (a = b) := by
  cases a with
  | none =>
    cases b with
    | none => simp [optD, PyData.eqv]
    | some t => simp [optD, plD, PyData.eqv]
  | some s =>
    cases b with
    | none => simp [optD, plD, PyData.eqv]
    | some t =>
      show PyData.eqv (plD s) (plD t) = _
      rw [plD_eqv]
      by_cases c : s = t
      · rw [decide_eq_true c, decide_eq_true (by rw [c])]
      · rw [decide_eq_false c, decide_eq_false fun e => c (Option.some.inj e)]
theorem plA_eqv : ∀ a b : List (Nat × Nat), PyData.eqvAll (a.map plD) (b.map plD) = decide (a = b)
  | [], [] => by simp [PyData.eqvAll]
  | [], _ :: _ => by simp [PyData.eqvAll]
  | _ :: _, [] => by simp [PyData.eqvAll]
  | x :: xs, y :: ys => by
    rw [List.map_cons, List.map_cons, PySem.W.eqv_all_cons, plD_eqv, plA_eqv xs ys]
    by_cases h1 : x = y <;> by_cases h2 : xs = ys <;> simp [h1, h2]
theorem plL_eqv (a b : List (Nat × Nat)) : PyData.eqv (.list (a.map plD)) (.list (b.map plD)) = decide (a = b) := by
  rw [← plA_eqv]
  simp [PyData.eqv]
theorem pl_any (l : List (Nat × Nat)) (s : Nat × Nat) : ((l.map plD).any fun z => PyData.eqv z (plD s)) = decide (s ∈ l) := by
  induction l with
  | nil => simp
  | cons a l ih =>
    rw [List.map_cons, List.any_cons, ih, plD_eqv]
    by_cases h1 : a = s <;> by_cases h2 : s ∈ l <;> simp [h1, h2]
    exact fun e => h1 e.symm
end
theorem ints_empty (l : List Nat) : (!PyData.eqv (.list ((l.map fun (n : Nat) => (n : Int)).map PyData.int)) (.list [])) = !l.isEmpty := by
  cases l <;> rfl
theorem ints_empty' (l : List Nat) : PyData.eqv (.list ((l.map fun (n : Nat) => (n : Int)).map PyData.int)) (.list []) = l.isEmpty := by
  cases l <;> rfl
theorem dec_le {a b : Nat} : decide ((a : Int) ≤ (b : Int)) = decide (a ≤ b) := by
  by_cases c : a ≤ b
  · rw [decide_eq_true c, decide_eq_true (by omega)]
  · rw [decide_eq_false c, decide_eq_false (by omega)]
theorem dec_intV {a b : Nat} : decide (V.int (a : Int) = V.int (b : Int)) = decide (a = b) := by
  by_cases c : a = b
  · rw [decide_eq_true c, decide_eq_true (by rw [c])]
  · rw [decide_eq_false c, decide_eq_false fun y => c (by have := V.int.inj y; omega)]
def tNotN (t : TE) : TT := tTest (tOp (fun x y H Q => y = V.non ∧ Q (V.bl (!decide (x = .non))) H) t (tC .non))
theorem Paired.app {α β : Type} {F : α → β → Prop} : ∀ {a : List α} {b : List β} {c : List α} {d : List β}, Paired F a b → Paired F c d → Paired F (a ++ c) (b ++ d)
  | _, _, _, _, .nil, q => q
  | _, _, _, _, .cons r t, q => .cons r (Paired.app t q)
/-! ### slices and sums of tuples -/
theorem slA_case {K : PySem.W.Frag} {t0 : Addr} {ts : List V} {lo hi : Option Int} {H : Hp} {Q : VK} (ht : H t0 = some (.tup ts)) (h : ∀ b H', Same H H' → H' b = some (.tup (cutV ts lo hi)) → Q (.ref b) H') : rSlA K (.ref t0) lo hi H Q := by
  refine ⟨t0, ts, rfl, SqT.of ht, fun hf => h t0 H (.refl H) ?_, fun hn p np => h p _ (same_upd np) upd_same⟩
  unfold cutV
  rw [hf.1, hf.2, List.drop_zero, Nat.sub_zero, List.take_of_length_le (Nat.le_refl _)]
  exact ht
theorem catA_case {K : PySem.W.Frag} {a b : Addr} {xs ys : List V} {H : Hp} {Q : VK} (ha : H a = some (.tup xs)) (hb : H b = some (.tup ys)) (hl : xs.length + ys.length ≤ sizeLine) (h : ∀ c H', Same H H' → H' c = some (.tup (xs ++ ys)) → Q (.ref c) H') : rCatA K (.ref a) (.ref b) H Q := by
  refine ⟨a, b, xs, ys, rfl, rfl, SqT.of ha, SqT.of hb, hl, fun e => ?_, fun _ e => ?_, fun _ _ p np => h p _ (same_upd np) upd_same⟩
  · subst e
    exact h b H (.refl H) hb
  · subst e
    rw [List.append_nil] at h
    exact h a H (.refl H) ha
/-- the orders but the k-th -/
def wo (os : List Od) (k : Nat) : List Od := os.take k ++ os.drop (k + 1)
theorem wo_ok {p h k : Nat} {os : List Od} (ok : NetOk p h os) : NetOk p h (wo os k) := by
  refine { ok with len := ?_, ok := fun o ho => ?_ }
  · unfold wo
    rw [List.length_append, List.length_take, List.length_drop]
    have := ok.len
    omega
  · rcases List.mem_append.mp ho with z | z
    · exact ok.ok o (List.mem_of_mem_take z)
    · exact ok.ok o (List.mem_of_mem_drop z)
/-! ### slices and sums of lists -/
theorem slL_case {K : PySem.W.Frag} {a : Addr} {xs : List V} {lo hi : Option Int} {H : Hp} {Q : VK} (ha : H a = some (.lst xs)) (h : ∀ b H', Same H H' → H b = none → H' b = some (.lst (cutV xs lo hi)) → Q (.ref b) H') : rSlL K (.ref a) lo hi H Q :=
  ⟨a, xs, rfl, SqL.of ha, fun p np => h p _ (same_upd np) np upd_same⟩
theorem catL_case {a b : Addr} {xs ys : List V} {H : Hp} {Q : VK} (ha : H a = some (.lst xs)) (hb : H b = some (.lst ys)) (hl : xs.length + ys.length ≤ sizeLine) (h : ∀ c H', Same H H' → H c = none → H' c = some (.lst (xs ++ ys)) → Q (.ref c) H') : rCat (.ref a) (.ref b) H Q :=
  ⟨a, b, xs, ys, rfl, rfl, ha, hb, hl, fun p np => h p _ (same_upd np) np upd_same⟩
theorem Paired.setAt {α β : Type} {F : α → β → Prop} {x : α} {y : β} : ∀ {l1 : List α} {l2 : List β} (k : Nat), Paired F l1 l2 → F x y → Paired F (l1.set k x) (l2.set k y)
  | _, _, _, .nil, _ => .nil
  | _, _, 0, .cons _ t, q => .cons q t
  | _, _, k + 1, .cons r t, q => .cons r (Paired.setAt k t q)
/-! ### delivered by a day, on a day -/
def byDay (p h : Nat) (os : List Od) (day : Nat) (s : Nat × Nat) : Bool := match dst p h os s with
  | none => false
  | some c => decide (c.2 ≤ day)
def onDayB (p h : Nat) (os : List Od) (day : Nat) (s : Nat × Nat) : Bool := match dst p h os s with
  | none => false
  | some c => decide (c.2 = day)
theorem byDay_some {p h day : Nat} {os : List Od} {s c : Nat × Nat} (e : dst p h os s = some c) : byDay p h os day s = decide ((c.2 : Int) ≤ (day : Int)) := by
  unfold byDay
  rw [e, dec_le]
theorem onDay_some {p h day : Nat} {os : List Od} {s c : Nat × Nat} (e : dst p h os s = some c) : onDayB p h os day s = decide (V.int (c.2 : Int) = V.int (day : Int)) := by
  unfold onDayB
  rw [e, dec_intV]
theorem odK {p h s t f n e : Nat} (h1 : s < h) (h2 : t < h) (h3 : s ≠ t) (h4 : f < p) (h5 : 1 ≤ n) (h6 : n ≤ p) (h7 : 1 ≤ e) (h8 : e ≤ 9) : OdOk p h ⟨s, t, f, n, e⟩ := ⟨h1, h2, h3, h4, h5, h6, h7, h8⟩
/-! ### words and numbers -/
def digB (w : Str) : Bool := Txt.isascii w && Txt.isdigit w
def numB (w : Str) : Bool := digB w && (decide (w = "0") || (decide (w.length ≤ 3) && !decide (w.cps.toList.head? = some 48)))
/-- a word, and the number that it is, if it is one -/
structure Wk (w : Str) (v : Option Nat) : Prop where
  num : numB w = v.isSome
  int : ∀ n, v = some n → PySem.intText? w = some (n : Int)
  len : w.length ≤ 640
/-! ### numbers as texts -/
def nT (n : Nat) : Str := Str.ofString (toString (n : Int))
def nTok (n : Nat) : Bool := numB (nT n) && decide (PySem.intText? (nT n) = some (n : Int)) && decide ((nT n).length ≤ 2) && (nT n).cps.all (fun c => decide (48 ≤ c ∧ c ≤ 57))
theorem nTok_all : (List.range 31).all nTok = true := by decide +kernel
theorem nT_ok {n : Nat} (h : n ≤ 30) : numB (nT n) = true ∧ PySem.intText? (nT n) = some (n : Int) ∧ (nT n).length ≤ 2 ∧ ∀ c ∈ (nT n).cps.toList, 48 ≤ c ∧ c ≤ 57 := by
  have h1 := List.all_eq_true.mp nTok_all n (List.mem_range.mpr (by omega))
  unfold nTok at h1
  rw [Bool.and_eq_true, Bool.and_eq_true, Bool.and_eq_true] at h1
  obtain ⟨⟨⟨a, b⟩, c⟩, d⟩ := h1
  refine ⟨a, of_decide_eq_true b, of_decide_eq_true c, fun x hx => ?_⟩
  have := Array.all_eq_true_iff_forall_mem.mp d x (Array.mem_toList_iff.mp hx)
  exact of_decide_eq_true this
/-! ### texts of nets: plain mathematics -/
theorem mem_joinL {S : List Nat} {x : Nat} : ∀ {parts : List (List Nat)}, x ∈ TL.joinL S parts → x ∈ S ∨ ∃ p ∈ parts, x ∈ p
  | [], h => by cases h
  | [p], h => .inr ⟨p, List.mem_singleton.mpr rfl, h⟩
  | p :: q :: r, h => by
    rcases List.mem_append.mp (show x ∈ p ++ (S ++ TL.joinL S (q :: r)) from h) with h | h
    · exact .inr ⟨p, List.mem_cons_self, h⟩
    · rcases List.mem_append.mp h with h | h
      · exact .inl h
      · rcases mem_joinL h with h | ⟨z, hz, h⟩
        · exact .inl h
        · exact .inr ⟨z, List.mem_cons_of_mem _ hz, h⟩
theorem mem_join {y : Str} {x : Nat} {parts : List Str} (h : x ∈ TL.tl (Txt.join y parts)) : x ∈ TL.tl y ∨ ∃ p ∈ parts, x ∈ TL.tl p := by
  rw [TL.join_eq, TL.tl_join] at h
  rcases mem_joinL h with h | ⟨z, hz, h⟩
  · exact .inl h
  · obtain ⟨p, hp, rfl⟩ := List.mem_map.mp hz
    exact .inr ⟨p, hp, h⟩
theorem len_joinL {S : List Nat} : ∀ parts : List (List Nat), (TL.joinL S parts).length ≤ (parts.map List.length).sum + parts.length * S.length
  | [] => Nat.zero_le _
  | [p] => by
    show p.length ≤ _
    simp
  | p :: q :: r => by
    have ih := len_joinL (S := S) (q :: r)
    show (p ++ (S ++ TL.joinL S (q :: r))).length ≤ _
    rw [List.length_append, List.length_append, List.map_cons, List.sum_cons, List.length_cons, Nat.succ_mul]
    omega
theorem len_join {y : Str} (parts : List Str) : (Txt.join y parts).length ≤ (parts.map (·.length)).sum + parts.length * y.length := by
  have h := len_joinL (S := TL.tl y) (parts.map TL.tl)
  rw [TL.len_tl, TL.join_eq, TL.tl_join, TL.len_tl y]
  rw [List.map_map, List.length_map] at h
  exact h
def wordsO (o : Od) : List Str := [nT o.s, nT o.t, nT o.f, nT o.n, nT o.e]
def lineNet (p h : Nat) : Str := Txt.join " " [("net" : Str), nT p, nT h]
def lineOrd (o : Od) : Str := Txt.join " " (("order" : Str) :: wordsO o)
def linesOf (p h : Nat) (os : List Od) : List Str := lineNet p h :: os.map lineOrd
def textOf (p h : Nat) (os : List Od) : Str := Txt.join "\n" (linesOf p h os)
/-- a word of digits or letters -/
def Plain (w : Str) : Prop := ∀ c ∈ TL.tl w, 33 ≤ c
theorem nT_plain {n : Nat} (h : n ≤ 30) : Plain (nT n) := fun c hc => by
  have := (nT_ok h).2.2.2 c hc
  omega
theorem net_plain : Plain "net" := by
  unfold Plain
  decide +kernel
theorem order_plain : Plain "order" := by
  unfold Plain
  decide +kernel
theorem od_le {p h : Nat} {os : List Od} {o : Od} (k : NetOk p h os) (ho : o ∈ os) : o.s ≤ 30 ∧ o.t ≤ 30 ∧ o.f ≤ 30 ∧ o.n ≤ 30 ∧ o.e ≤ 30 := by
  have a := k.ok o ho
  have := a.s; have := a.t; have := a.f; have := a.n; have := a.e; have := k.p30; have := k.h10
  omega
theorem wordsO_plain {p h : Nat} {os : List Od} {o : Od} (k : NetOk p h os) (ho : o ∈ os) : ∀ w ∈ wordsO o, Plain w := by
  obtain ⟨h1, h2, h3, h4, h5⟩ := od_le k ho
  intro w hw
  unfold wordsO at hw
  simp only [List.mem_cons, List.not_mem_nil, or_false] at hw
  rcases hw with rfl | rfl | rfl | rfl | rfl
  · exact nT_plain h1
  · exact nT_plain h2
  · exact nT_plain h3
  · exact nT_plain h4
  · exact nT_plain h5
theorem split_words {ws : List Str} (hne : ws ≠ []) (h : ∀ w ∈ ws, Plain w) : Txt.split (Txt.join " " ws) " " = ws :=
  TL.split_join (s := 32) (S := []) (by decide +kernel) (by decide +kernel) hne fun w hw hc => by
    have := h w hw 32 hc
    omega
theorem line_free {ws : List Str} (h : ∀ w ∈ ws, Plain w) : 10 ∉ TL.tl (Txt.join " " ws) := fun hc => by
  rcases mem_join hc with h1 | ⟨w, hw, h1⟩
  · have : TL.tl " " = [32] := by decide +kernel
    rw [this] at h1
    simp at h1
  · have := h w hw 10 h1
    omega
theorem split_lines {ls : List Str} (hne : ls ≠ []) (h : ∀ l ∈ ls, 10 ∉ TL.tl l) : Txt.split (Txt.join "\n" ls) "\n" = ls :=
  TL.split_join (s := 10) (S := []) (by decide +kernel) (by decide +kernel) hne h
theorem split_net {p h : Nat} (hp : p ≤ 30) (hh : h ≤ 30) : Txt.split (lineNet p h) " " = [("net" : Str), nT p, nT h] := split_words (by simp) fun w hw => by
  simp only [List.mem_cons, List.not_mem_nil, or_false] at hw
  rcases hw with rfl | rfl | rfl
  · exact net_plain
  · exact nT_plain hp
  · exact nT_plain hh
theorem split_ord {p h : Nat} {os : List Od} {o : Od} (k : NetOk p h os) (ho : o ∈ os) : Txt.split (lineOrd o) " " = ("order" : Str) :: wordsO o := split_words (by simp) fun w hw => by
  rcases List.mem_cons.mp hw with rfl | hw
  · exact order_plain
  · exact wordsO_plain k ho w hw
theorem split_text {p h : Nat} {os : List Od} (k : NetOk p h os) : Txt.split (textOf p h os) "\n" = linesOf p h os := split_lines (by unfold linesOf; simp) fun l hl => by
  have := k.p30; have := k.h10
  rcases List.mem_cons.mp hl with rfl | hl
  · refine line_free fun w hw => ?_
    simp only [List.mem_cons, List.not_mem_nil, or_false] at hw
    rcases hw with rfl | rfl | rfl
    · exact net_plain
    · exact nT_plain (by omega)
    · exact nT_plain (by omega)
  · obtain ⟨o, ho, rfl⟩ := List.mem_map.mp hl
    refine line_free fun w hw => ?_
    rcases List.mem_cons.mp hw with rfl | hw
    · exact order_plain
    · exact wordsO_plain k ho w hw
theorem len_net {p h : Nat} (hp : p ≤ 30) (hh : h ≤ 30) : (lineNet p h).length ≤ 20 := by
  refine Nat.le_trans (len_join _) ?_
  have h1 := (nT_ok hp).2.2.1
  have h2 := (nT_ok hh).2.2.1
  have h3 : ("net" : Str).length = 3 := by decide +kernel
  have h4 : (" " : Str).length = 1 := by decide +kernel
  simp [h3, h4]
  omega
theorem len_ord {p h : Nat} {os : List Od} {o : Od} (k : NetOk p h os) (ho : o ∈ os) : (lineOrd o).length ≤ 30 := by
  refine Nat.le_trans (len_join _) ?_
  obtain ⟨h1, h2, h3, h4, h5⟩ := od_le k ho
  have a1 := (nT_ok h1).2.2.1
  have a2 := (nT_ok h2).2.2.1
  have a3 := (nT_ok h3).2.2.1
  have a4 := (nT_ok h4).2.2.1
  have a5 := (nT_ok h5).2.2.1
  have a6 : ("order" : Str).length = 5 := by decide +kernel
  have a7 : (" " : Str).length = 1 := by decide +kernel
  unfold wordsO
  simp [a6, a7]
  omega
theorem lines_len {p h : Nat} {os : List Od} (k : NetOk p h os) : ∀ l ∈ linesOf p h os, l.length ≤ 30 := fun l hl => by
  have := k.p30; have := k.h10
  rcases List.mem_cons.mp hl with rfl | hl
  · exact Nat.le_trans (len_net (by omega) (by omega)) (by decide)
  · obtain ⟨o, ho, rfl⟩ := List.mem_map.mp hl
    exact len_ord k ho
theorem sum_le {l : List Nat} {m : Nat} (h : ∀ x ∈ l, x ≤ m) : l.sum ≤ l.length * m := by
  induction l with
  | nil => exact Nat.zero_le _
  | cons a l ih =>
    rw [List.sum_cons, List.length_cons, Nat.succ_mul]
    have := ih fun x hx => h x (List.mem_cons_of_mem _ hx)
    have := h a List.mem_cons_self
    omega
theorem lines_sum {p h : Nat} {os : List Od} (k : NetOk p h os) : ((linesOf p h os).map (·.length)).sum ≤ 630 := by
  refine Nat.le_trans (sum_le (m := 30) fun x hx => ?_) ?_
  · obtain ⟨l, hl, rfl⟩ := List.mem_map.mp hx
    exact lines_len k l hl
  · rw [List.length_map]
    show (os.map lineOrd).length.succ * 30 ≤ 630
    rw [List.length_map]
    have := k.len
    omega
theorem len_text {p h : Nat} {os : List Od} (k : NetOk p h os) : (textOf p h os).length ≤ 700 := by
  refine Nat.le_trans (len_join _) ?_
  have h1 := lines_sum k
  have h2 : ("\n" : Str).length = 1 := by decide +kernel
  have h3 : (linesOf p h os).length ≤ 21 := by
    show (os.map lineOrd).length.succ ≤ 21
    rw [List.length_map]
    have := k.len
    omega
  rw [h2]
  omega
theorem wk_nT {n : Nat} (h : n ≤ 30) : Wk (nT n) (some n) := ⟨(nT_ok h).1, fun m e => by
  cases e
  exact (nT_ok h).2.1, by have := (nT_ok h).2.2.1; omega⟩
/-- joined words, one behind the other -/
theorem join3 (a b c : Str) : Txt.join " " [a, b, c] = a ++ " " ++ b ++ " " ++ c := by
  rw [TL.join_eq]
  refine TL.ext_tl ?_
  rw [TL.tl_join]
  simp [TL.joinL, TL.tl_append]
theorem join6 (a b c d e f : Str) : Txt.join " " [a, b, c, d, e, f] = a ++ " " ++ b ++ " " ++ c ++ " " ++ d ++ " " ++ e ++ " " ++ f := by
  rw [TL.join_eq]
  refine TL.ext_tl ?_
  rw [TL.tl_join]
  simp [TL.joinL, TL.tl_append]
theorem cat_net : (Str.empty ++ "net " : Str) = "net" ++ " " := by decide +kernel
theorem cat_order : (Str.empty ++ "order " : Str) = "order" ++ " " := by decide +kernel
theorem cat_net' : ("net " : Str) = "net" ++ " " := by decide +kernel
abbrev s_Net_text : Stmt := inClass (top 26) 5
abbrev N_Net_text : List Str := ["self", "lines", "source", "target", "first", "days", "delay"]
abbrev P_Net_text : List Str := ["self"]
theorem sc_Net_text : FnScope N_Net_text P_Net_text (defScope s_Net_text) := ⟨rfl, rfl, rfl, by decide +kernel, rfl, by decide +kernel, by decide +kernel⟩
/-! ### the text of a net -/
section
variable {P : Program} {w : World} {K : PySem.W.Frag} {mg : Str → Option Value} {base : Heap}
/-- the text of a net -/
def spText (C : Addr) : Sp := fun vs H Q _ => ∃ (x t : Addr) (p h : Nat) (os : List Od) (F : List Addr), vs = [.ref x] ∧ NetAt C H x p h os t F ∧ NetOk p h os ∧ ∀ H', Same H H' → Q (.str (textOf p h os)) H'
theorem log_small {n : Nat} (h : n ≤ 30) : ((n : Int)).natAbs.log2 < 1920 := by
  have : ((n : Int)).natAbs = n := Int.natAbs_natCast n
  rw [this]
  by_cases c : n = 0
  · subst c; decide
  · have h1 : n.log2 < 5 := (Nat.log2_lt c).mpr (Nat.lt_of_le_of_lt h (by decide))
    omega
theorem len_app (a b : Str) : (a ++ b).length = a.length + b.length := by
  rw [TL.len_tl, TL.tl_append, List.length_append, ← TL.len_tl, ← TL.len_tl]
theorem len_sp : (" " : Str).length = 1 := by decide +kernel
theorem len_net4 : (Str.empty ++ ("net " : Str)).length = 4 := by decide +kernel
theorem len_ord6 : (Str.empty ++ ("order " : Str)).length = 6 := by decide +kernel
theorem ok_text {f C : Addr} {fd : FuncData} (F : Fun K "text" "Net.text" s_Net_text f fd) (T : NetT K C) : FnOk P w K mg base CX0 2 f fd P_Net_text (spText C) := by
  refine F.ok sc_Net_text (fun vs H Q E h => ?_) (fun cdv A outer s H vs Q E hr h => ?_)
  · obtain ⟨x, t, p, h, os, F, rfl, _⟩ := h
    rfl
  · obtain ⟨x, t, p, h, os, F, rfl, Nt, nok, q⟩ := h
    refine ⟨_, pss_cons (ps_set (i := 1) sc_Net_text.nd rfl (.inl rfl) (pe_lst (pa_cons (pe_joined (.cons pe_str (.cons (pe_fmt (pe_fld (pv 0) rfl)) (.cons pe_str (.cons (pe_fmt (pe_fld (pv 0) rfl)) .nil))))) pa_nil)))
      (pss_cons (ps_for PassesOwn.never rfl (pi_tup (pe_fld (pv 0) rfl)) (pg_tup (by rfl) (pgs_cons (pg_name (i := 2) sc_Net_text.nd rfl (.inl rfl)) (pgs_cons (pg_name (i := 3) sc_Net_text.nd rfl (.inl rfl)) (pgs_cons (pg_name (i := 4) sc_Net_text.nd rfl (.inl rfl)) (pgs_cons (pg_name (i := 5) sc_Net_text.nd rfl (.inl rfl)) (pgs_cons (pg_name (i := 6) sc_Net_text.nd rfl (.inl rfl)) pgs_nil))))))
        (pss_one (ps_expr (pe_bm PySem.F.plainAttrs_list PySem.F.slot_list_append PySem.F.type_list_append mt_append (pv 1) (pa_cons (pe_joined (.cons pe_str (.cons (pe_fmt (pv 2)) (.cons pe_str (.cons (pe_fmt (pv 3)) (.cons pe_str (.cons (pe_fmt (pv 4)) (.cons pe_str (.cons (pe_fmt (pv 5)) (.cons pe_str (.cons (pe_fmt (pv 6)) .nil))))))))))) pa_nil)))))
      (pss_one (ps_ret (pe_join pe_str (pv 1))))), ?_⟩
    obtain ⟨dx, fl, as, _, hx, ⟨ts, ht, hP⟩, _⟩ := id Nt
    have p30 := nok.p30; have h10 := nok.h10; have ol := nok.len
    have hp2 := (nT_ok p30).2.2.1
    have hh2 := (nT_ok (show h ≤ 30 by omega)).2.2.1
    refine ⟨_, rfl, by rw [len_net4, sizeLine_eq]; omega, ?_⟩
    refine ⟨_, rfl, x, C, dx, _, _, rfl, hx, T.cl, T.nP, nf_pe, .inr ⟨_, rfl, log_small p30, nT p, rfl, ?_, ?_⟩⟩
    · rw [len_app, len_net4, sizeLine_eq]
      omega
    refine ⟨_, rfl, ?_, ?_⟩
    · rw [len_app, len_app, len_net4, len_sp, sizeLine_eq]
      omega
    refine ⟨_, rfl, x, C, dx, _, _, rfl, hx, T.cl, T.nH, nf_ho, .inr ⟨_, rfl, log_small (show h ≤ 30 by omega), nT h, rfl, ?_, ?_⟩⟩
    · rw [len_app, len_app, len_app, len_net4, len_sp, sizeLine_eq]
      omega
    have e1 : (((Str.empty ++ "net " : Str) ++ nT p) ++ " ") ++ nT h = lineNet p h := by
      unfold lineNet
      rw [join3, cat_net]
    refine ⟨(by show 1 ≤ sizeLine; decide), fun L nL => ?_⟩
    rw [show (V.str ((((Str.empty ++ "net ") ++ nT p) ++ " ") ++ nT h)) = V.str (lineNet p h) by rw [e1]]
    have s1 := same_upd (o := HO.lst [.str (lineNet p h)]) nL
    refine ⟨_, rfl, x, C, dx, _, _, rfl, s1 _ _ hx, T.cl, T.nO, nf_or, t, rfl, ⟨_, SqT.of (s1 _ _ ht)⟩, ?_⟩
    refine for_tup (K := K) (a := t) (xs := ts) (fun i σ H' => (∃ x2 x3 x4 x5 x6, σ = [some (.ref x), some (.ref L), x2, x3, x4, x5, x6]) ∧ H' = upd H L (.lst ((lineNet p h :: (os.take i).map lineOrd).map V.str)))
      ⟨⟨_, _, _, _, _, rfl⟩, rfl⟩ (fun i σ H' _ ⟨_, e⟩ => by rw [e]; exact SqT.of (same_upd nL _ _ ht)) ?_ ?_
    · rintro i v σ H1 hi ⟨⟨x2, x3, x4, x5, x6, rfl⟩, rfl⟩
      have hl := hP.length
      have lt : i < os.length := by rw [← hl]; exact (List.getElem?_eq_some_iff.mp hi).1
      have ei := List.getElem?_eq_getElem lt
      obtain ⟨v', hv', u, ev, hu⟩ := Paired.get? (i := i) hP ei
      obtain rfl : v' = v := Option.some.inj (hv'.symm.trans hi)
      subst ev
      have hmem := List.mem_of_getElem? ei
      generalize os[i] = o at ei hu hmem
      obtain ⟨b1, b2, b3, b4, b5⟩ := od_le nok hmem
      have c1 := (nT_ok b1).2.2.1
      have c2 := (nT_ok b2).2.2.1
      have c3 := (nT_ok b3).2.2.1
      have c4 := (nT_ok b4).2.2.1
      have c5 := (nT_ok b5).2.2.1
      have sL := same_upd (o := HO.lst ((lineNet p h :: (os.take i).map lineOrd).map V.str)) nL
      refine ⟨u, _, rfl, SqT.of (sL _ _ hu), rfl, _, _, rfl, _, _, rfl, _, _, rfl, _, _, rfl, _, _, rfl, rfl, ?_⟩
      refine ⟨_, rfl, .inl ⟨rfl, _, SqL.of upd_same⟩, ?_⟩
      refine ⟨_, rfl, by rw [len_ord6, sizeLine_eq]; omega, _, rfl, .inr ⟨_, rfl, log_small b1, nT o.s, rfl, by rw [len_app, len_ord6, sizeLine_eq]; omega, _, rfl, by rw [len_app, len_app, len_ord6, len_sp, sizeLine_eq]; omega, ?_⟩⟩
      refine ⟨_, rfl, .inr ⟨_, rfl, log_small b2, nT o.t, rfl, by rw [len_app, len_app, len_app, len_ord6, len_sp, sizeLine_eq]; omega, _, rfl, by rw [len_app, len_app, len_app, len_app, len_ord6, len_sp, sizeLine_eq]; omega, ?_⟩⟩
      refine ⟨_, rfl, .inr ⟨_, rfl, log_small b3, nT o.f, rfl, by rw [len_app, len_app, len_app, len_app, len_app, len_ord6, len_sp, sizeLine_eq]; omega, _, rfl, by rw [len_app, len_app, len_app, len_app, len_app, len_app, len_ord6, len_sp, sizeLine_eq]; omega, ?_⟩⟩
      refine ⟨_, rfl, .inr ⟨_, rfl, log_small b4, nT o.n, rfl, by rw [len_app, len_app, len_app, len_app, len_app, len_app, len_app, len_ord6, len_sp, sizeLine_eq]; omega, _, rfl, by rw [len_app, len_app, len_app, len_app, len_app, len_app, len_app, len_app, len_ord6, len_sp, sizeLine_eq]; omega, ?_⟩⟩
      refine ⟨_, rfl, .inr ⟨_, rfl, log_small b5, nT o.e, rfl, by rw [len_app, len_app, len_app, len_app, len_app, len_app, len_app, len_app, len_app, len_ord6, len_sp, sizeLine_eq]; omega, ?_⟩⟩
      refine ⟨L, _, _, rfl, rfl, upd_same, ?_, ⟨_, _, _, _, _, rfl⟩, ?_⟩
      · rw [List.length_map, List.length_cons, List.length_map, List.length_take]
        exact small1000 (by omega)
      · rw [upd_upd, List.take_add_one, ei]
        have e2 : ((((((((((Str.empty ++ "order " : Str) ++ nT o.s) ++ " ") ++ nT o.t) ++ " ") ++ nT o.f) ++ " ") ++ nT o.n) ++ " ") ++ nT o.e) = lineOrd o := by
          unfold lineOrd wordsO
          rw [join6, cat_order]
        show upd H L (.lst (((lineNet p h :: (os.take i).map lineOrd).map V.str) ++ [V.str ((((((((((Str.empty ++ "order " : Str) ++ nT o.s) ++ " ") ++ nT o.t) ++ " ") ++ nT o.f) ++ " ") ++ nT o.n) ++ " ") ++ nT o.e)])) = _
        rw [e2, Option.toList_some, List.map_append, List.map_cons, List.map_cons, List.map_append]
        rfl
    · rintro σ H1 ⟨⟨x2, x3, x4, x5, x6, rfl⟩, rfl⟩
      rw [hP.length, List.take_length]
      refine ⟨⟨_, rfl⟩, _, rfl, "\n", L, linesOf p h os, rfl, rfl, .inl (SqL.of upd_same), ?_, q _ (same_upd nL)⟩
      have h1 := lines_sum nok
      have h2 : ("\n" : Str).length = 1 := by decide +kernel
      have h3 : (linesOf p h os).length ≤ 21 := by
        show (os.map lineOrd).length.succ ≤ 21
        rw [List.length_map]
        omega
      rw [h2]
      omega
end
/-! ### xs.extend(a tuple) -/
open PySem PySem.AutoSeq1 in
theorem extend_tup (lA bA : Addr) (us ws : Array Value) (cU cW : Nat) (di : Option Addr) (sl : Array (Option Value)) (long : ¬(!us.isEmpty && Builtin.List.listTooLong (us.size + ws.size)) = true) (zU : us.size ≤ sizeLine) (zB : us.size + ws.size ≤ sizeLine + 1) :
    PySem.Meets (Builtin.«list.extend» ⟨[.ref lA, .ref bA], []⟩) (fun _ Rs st => st.heap.get? lA = some { cls := .type "list", dict := none, data := .seq us cU, slots := #[] } ∧ st.heap.get? bA = some { cls := .type "tuple", dict := di, data := .seq ws cW, slots := sl } ∧
      Rs (.ok (.ret Value.none)) { st with heap := st.heap.update lA (Obj.mapSeq fun v => v ++ ws), toks := st.toks }) := by
  refine .of_wp fun prog w A Rs st q => ?_
  obtain ⟨hp, g0, d0, tk0, os0⟩ := st
  obtain ⟨eL, eB, q⟩ := q
  have f1 := idx_int
  have f2 := sub_tuple_tuple
  have f3 := sub_list_list
  have f4 := sub_tuple_list
  have f5 := sub_list_tuple
  have zz : (us ++ ws).size ≤ sizeLine + 1 := by
    rw [Array.size_append]
    exact zB
  wp_walk using (wpAny_updateSeq eL rfl (hz := zU) (_hz' := zz)), wpAny_loadPart' eL, wpAny_loadPart' eB
  exact ⟨_, rfl, q⟩
def rExtendT : V → List V → Hp → VK → Prop := fun x vs H Q => ∃ lA tA os ts, x = .ref lA ∧ vs = [.ref tA] ∧ H lA = some (.lst os) ∧ H tA = some (.tup ts) ∧ os.length + ts.length ≤ sizeLine ∧ Q .non (upd H lA (.lst (os ++ ts)))
theorem mt_extendT {X : Cx} : MtM X "list.extend" rExtendT := by
  intro pins sh σ0 H0 x0 vs0 v0 us0 Q0 Iv rX rV hx
  obtain ⟨lA, tA, os, ts, rfl, rfl, eL, eT, zS, q⟩ := hx
  cases rX
  obtain ⟨w1, rfl, rW⟩ := rV.one
  cases rW
  obtain ⟨_, js, cU, rL, lenL, oL⟩ := Iv.lstM eL
  obtain ⟨ks, rT, ⟨⟨cl, di, da, sl⟩, oT, hc, cW, hd⟩, _⟩ := Iv.tuple (SqT.of (K := X.K) eT)
  obtain rfl : cl = _ := hc
  obtain rfl : da = _ := hd
  have lenT := rT.length
  have zA : js.toArray.size + ks.toArray.size ≤ sizeLine := by
    rw [List.size_toArray, List.size_toArray]
    omega
  refine call_meets PySem.F.slot_list_extend ⟨_, oL, rfl⟩ PySem.F.entry_list_extend (PySem.F.args_list_extend_2 _ _) (extend_tup lA tA js.toArray ks.toArray cU cW di sl (fun z => by
    rw [notLongL zA, Bool.and_false] at z
    cases z) (by rw [List.size_toArray]; omega) (by omega)) ⟨oL, oT, ?_⟩
  refine ⟨.non, _, Iv.lset (its' := js ++ ks) eL oL (by simp) (rL.append rT) ?_, rfl, q⟩
  rw [List.length_append]
  omega
/-! ### the bytes of a net -/
def o5 (o : Od) : List Nat := [o.s, o.t, o.f, o.n, o.e]
theorem o5_vs {o : Od} : o.vs = nints (o5 o) := rfl
def headC (p h : Nat) (os : List Od) : List Nat := [78, p, h, os.length]
def sumC (l : List Nat) : Nat := l.sum % 256
def bodyC (p h : Nat) (os : List Od) : List Nat := headC p h os ++ os.flatMap o5
def codeOf (p h : Nat) (os : List Od) : List Nat := bodyC p h os ++ [sumC (bodyC p h os)]
theorem flat5 {os : List Od} : (os.flatMap o5).length = 5 * os.length := by
  induction os with
  | nil => rfl
  | cons o os ih =>
    rw [List.flatMap_cons, List.length_append, ih, List.length_cons]
    show 5 + _ = _
    omega
theorem bodyC_len {p h : Nat} {os : List Od} : (bodyC p h os).length = 4 + 5 * os.length := by
  unfold bodyC
  rw [List.length_append, flat5]
  rfl
theorem codeOf_len {p h : Nat} {os : List Od} : (codeOf p h os).length = 5 + 5 * os.length := by
  unfold codeOf
  rw [List.length_append, bodyC_len, List.length_singleton]
  omega
theorem flat5_at {os : List Od} {k j : Nat} {o : Od} (ho : os[k]? = some o) (hj : j < 5) : (os.flatMap o5)[5 * k + j]? = (o5 o)[j]? := by
  induction os generalizing k with
  | nil => cases ho
  | cons a os ih =>
    rw [List.flatMap_cons]
    cases k with
    | zero =>
      obtain rfl : a = o := Option.some.inj ho
      rw [show 5 * 0 + j = j by omega]
      exact List.getElem?_append_left (show j < (o5 a).length from hj)
    | succ k =>
      rw [List.getElem?_append_right (show (o5 a).length ≤ _ by show 5 ≤ _; omega)]
      rw [show 5 * (k + 1) + j - (o5 a).length = 5 * k + j by show 5 * (k + 1) + j - 5 = _; omega]
      exact ih ho
theorem code_at {p h k j : Nat} {os : List Od} {o : Od} (ho : os[k]? = some o) (hj : j < 5) : (codeOf p h os)[4 + 5 * k + j]? = (o5 o)[j]? := by
  have lt : k < os.length := (List.getElem?_eq_some_iff.mp ho).1
  unfold codeOf
  rw [List.getElem?_append_left (by rw [bodyC_len]; omega)]
  unfold bodyC
  rw [List.getElem?_append_right (by show 4 ≤ _; omega)]
  rw [show 4 + 5 * k + j - (headC p h os).length = 5 * k + j by show 4 + 5 * k + j - 4 = _; omega]
  exact flat5_at ho hj
theorem code_end {p h : Nat} {os : List Od} : (codeOf p h os)[4 + 5 * os.length]? = some (sumC (bodyC p h os)) := by
  unfold codeOf
  rw [List.getElem?_append_right (by rw [bodyC_len]; exact Nat.le_refl _), bodyC_len, Nat.sub_self]
  rfl
theorem code_take {p h : Nat} {os : List Od} : (codeOf p h os).take (4 + 5 * os.length) = bodyC p h os := by
  unfold codeOf
  rw [List.take_append_of_le_length (by rw [bodyC_len]; exact Nat.le_refl _), List.take_of_length_le (by rw [bodyC_len]; exact Nat.le_refl _)]
theorem nints_at {l : List Nat} {k n : Nat} (h : l[k]? = some n) : (nints l)[k]? = some (.int n) := by
  unfold nints
  rw [List.getElem?_map, h]
  rfl
theorem nints_sumI {l : List Nat} : (l.map fun (n : Nat) => (n : Int)).sum = (l.sum : Nat) := by
  induction l with
  | nil => rfl
  | cons a l ih =>
    rw [List.map_cons, List.sum_cons, List.sum_cons, ih]
    omega
/-- a comprehension over a range with steps -/
theorem lc_steps {lo c : Int} {n : Nat} {g : TG} {tt : TT} {te : TE} {ws : List Nat} {ρ : L2.St} {H0 : Hp} {L : Addr} {Qe : Hp → Prop} (J : Nat → Hp → Prop) (j0 : J 0 (upd H0 L (.lst [])))
    (go : ∀ i H, i < n → J i H → g (.int (lo + (i : Nat) * c)) (wipe ρ ws) H fun ρ2 H2 => wipe ρ2 ws = wipe ρ ws ∧ tt ρ2 H2 fun b H3 =>
      if b = true then te ρ2 H3 fun y H4 => ∃ acc, H4 L = some (.lst acc) ∧ acc.length < sizeLine ∧ J (i + 1) (upd H4 L (.lst (acc ++ [y]))) else J (i + 1) H3) (je : ∀ H, J n H → Qe H) :
    ∃ W : Nat → Nat → Hp → Prop, (∃ m, W 0 m (upd H0 L (.lst []))) ∧ ∀ i m H, W i m H →
      ((Itc lo c n).stop i H ∧ Qe H) ∨ ((Itc lo c n).go i H ∧ ∃ Nx : Hp → Prop, (∀ H', Nx H' → ∃ m', m' < m ∧ W (i + 1) m' H') ∧ ∀ x H', (Itc lo c n).yld i H x H' → g x (wipe ρ ws) H' fun ρ2 H2 => wipe ρ2 ws = wipe ρ ws ∧ tt ρ2 H2 fun b H3 =>
        if b = true then te ρ2 H3 fun y H4 => ∃ acc, H4 L = some (.lst acc) ∧ acc.length < sizeLine ∧ Nx (upd H4 L (.lst (acc ++ [y]))) else Nx H3) := by
  refine ⟨fun i m H => m + i = n ∧ J i H, ⟨n, rfl, j0⟩, fun i m H ⟨e, j⟩ => ?_⟩
  rcases Nat.lt_or_ge i n with lt | ge
  · refine .inr ⟨lt, J (i + 1), fun H' j' => ⟨m - 1, by omega, by omega, j'⟩, fun x H' ⟨e1, e2⟩ => ?_⟩
    subst e1 e2
    exact go i _ lt j
  · obtain rfl : i = n := by omega
    exact .inl ⟨Nat.le_refl _, je H j⟩
abbrev s_checksum : Stmt := top 36
abbrev N_checksum : List Str := ["code"]
abbrev P_checksum : List Str := ["code"]
theorem sc_checksum : FnScope N_checksum P_checksum (defScope s_checksum) := ⟨rfl, rfl, rfl, by decide +kernel, rfl, by decide +kernel, by decide +kernel⟩
abbrev s_encode : Stmt := top 34
abbrev N_encode : List Str := ["net", "code", "order"]
abbrev P_encode : List Str := ["net"]
theorem sc_encode : FnScope N_encode P_encode (defScope s_encode) := ⟨rfl, rfl, rfl, by decide +kernel, rfl, by decide +kernel, by decide +kernel⟩
/-! ### encode -/
def spCheckS (K : PySem.W.Frag) : Sp := fun vs H Q _ => ∃ (a : Addr) (l : List Nat), vs = [.ref a] ∧ H a = some (.lst (nints l)) ∧ Q (.int (sumC l)) H
def spEncode (C : Addr) : Sp := fun vs H Q _ => ∃ (x t : Addr) (p h : Nat) (os : List Od) (F : List Addr), vs = [.ref x] ∧ NetAt C H x p h os t F ∧ NetOk p h os ∧
  ∀ H' r, Same H H' → H r = none → H' r = some (.lst (nints (codeOf p h os))) → Q (.ref r) H'
section
variable {P : Program} {w : World} {K : PySem.W.Frag} {mg : Str → Option Value} {base : Heap}
theorem ok_checksum {f : Addr} {fd : FuncData} (F : Fun K "checksum" "checksum" s_checksum f fd) (zs : mg "sum" = none) : FnOk P w K mg base CX0 1 f fd P_checksum (spCheckS K) := by
  refine F.ok sc_checksum (fun vs H Q E h => ?_) (fun cdv A outer s H vs Q E hr h => ?_)
  · obtain ⟨a, l, rfl, _⟩ := h
    rfl
  · obtain ⟨a, l, rfl, ha, q⟩ := h
    refine ⟨_, pss_one (ps_ret (pe_op op_modN (pe_callB (cr_sum rfl) (by rfl) zs PyProof.Rows.boot_sum (pa_cons (pv 0) pa_nil)) pe_int)), ?_⟩
    refine ⟨_, rfl, a, l.map fun (n : Nat) => (n : Int), rfl, ?_, _, _, rfl, rfl, (by show (256 : Int) ≠ 0; decide), ?_⟩
    · rw [nints_V] at ha
      exact SqL.of ha
    · rw [nints_sumI]
      show Q (.int (((l.sum : Nat) : Int).fmod ((256 : Nat) : Int))) H
      rw [fmod_nat]
      exact q
theorem ok_encode {f C : Addr} {fd : FuncData} (F : Fun K "encode" "encode" s_encode f fd) (B : Blt mg) (T : NetT K C) (hF : ∃ t, mg "FIRST_BYTE" = some (.int 78 t)) (DS : Df P w K mg base "checksum" 1 P_checksum (spCheckS K)) : FnOk P w K mg base CX0 2 f fd P_encode (spEncode C) := by
  obtain ⟨fS, fdS, gS, kS, bS, GS⟩ := DS
  obtain ⟨tk, hF⟩ := hF
  refine F.ok sc_encode (fun vs H Q E h => ?_) (fun cdv A outer s H vs Q E hr h => ?_)
  · obtain ⟨x, t, p, h, os, F, rfl, _⟩ := h
    rfl
  · obtain ⟨x, t, p, h, os, F, rfl, Nt, nok, q⟩ := h
    refine ⟨_, pss_cons (ps_set (i := 1) sc_encode.nd rfl (.inl rfl) (pe_lst (pa_cons (pe_glob (v := .int 78) rfl hF ⟨_, rfl⟩) (pa_cons (pe_fld (pv 0) rfl) (pa_cons (pe_fld (pv 0) rfl) (pa_cons (pe_callB call_len_seq (by rfl) B.len PySem.boot_len (pa_cons (pe_fld (pv 0) rfl) pa_nil)) pa_nil))))))
      (pss_cons (ps_for PassesOwn.never rfl (pi_tup (pe_fld (pv 0) rfl)) (pg_name (i := 2) sc_encode.nd rfl (.inl rfl))
        (pss_one (ps_expr (pe_bm PySem.F.plainAttrs_list PySem.F.slot_list_extend PySem.F.type_list_extend mt_extendT (pv 1) (pa_cons (pv 2) pa_nil)))))
      (pss_one (ps_ret (pe_op op_cat (pv 1) (pe_lst (pa_cons (pe_call GS hr (by rfl) gS kS bS .nil pass0 (pa_cons (pv 1) pa_nil)) pa_nil)))))), ?_⟩
    obtain ⟨dx, fl, as, _, hx, ⟨ts, ht, hP⟩, _⟩ := id Nt
    have hl := hP.length
    have ol := nok.len
    refine ⟨_, rfl, x, C, dx, _, _, rfl, hx, T.cl, T.nP, nf_pe, _, rfl, x, C, dx, _, _, rfl, hx, T.cl, T.nH, nf_ho, _, rfl, x, C, dx, _, _, rfl, hx, T.cl, T.nO, nf_or, t, _, rfl, .inr (SqT.of ht), (by show 4 ≤ sizeLine; decide), fun L nL => ?_⟩
    rw [hl]
    have sL := same_upd (o := HO.lst (nints (headC p h os))) nL
    have ht1 := sL _ _ ht
    refine ⟨_, rfl, x, C, dx, _, _, rfl, sL _ _ hx, T.cl, T.nO, nf_or, t, rfl, ⟨_, SqT.of ht1⟩, ?_⟩
    refine for_tup (K := K) (a := t) (xs := ts) (fun i σ H' => (∃ x2, σ = [some (.ref x), some (.ref L), x2]) ∧ H' = upd H L (.lst (nints (headC p h os ++ (os.take i).flatMap o5))))
      ⟨⟨_, rfl⟩, by rw [List.take_zero, List.flatMap_nil, List.append_nil]; rfl⟩ (fun i σ H' _ ⟨_, e⟩ => by rw [e]; exact SqT.of (same_upd nL _ _ ht)) ?_ ?_
    · rintro i v σ H1 hi ⟨⟨x2, rfl⟩, rfl⟩
      have lt : i < os.length := by rw [← hl]; exact (List.getElem?_eq_some_iff.mp hi).1
      have ei := List.getElem?_eq_getElem lt
      obtain ⟨v', hv', u, ev, hu⟩ := Paired.get? (i := i) hP ei
      obtain rfl : v' = v := Option.some.inj (hv'.symm.trans hi)
      subst ev
      generalize os[i] = o at ei hu
      have nu : u ≠ L := ne_of_none hu nL
      refine ⟨_, rfl, .inl ⟨rfl, _, SqL.of upd_same⟩, ?_⟩
      refine ⟨_, rfl, L, u, _, _, rfl, rfl, upd_same, (upd_ne nu).trans hu, ?_, ⟨_, rfl⟩, ?_⟩
      · rw [nints_len, List.length_append, flat5, List.length_take]
        show 4 + 5 * min i os.length + 5 ≤ sizeLine
        exact Nat.le_of_lt (small1000 (by omega))
      · rw [upd_upd, List.take_add_one, ei, Option.toList_some, List.flatMap_append, o5_vs, ← nints_app, List.append_assoc]
        rfl
    · rintro σ H1 ⟨⟨x2, rfl⟩, rfl⟩
      rw [hl, List.take_length]
      have hB : (upd H L (.lst (nints (bodyC p h os)))) L = some (.lst (nints (bodyC p h os))) := upd_same
      have s1 := same_upd (o := HO.lst (nints (bodyC p h os))) nL
      refine ⟨_, rfl, _, rfl, L, bodyC p h os, rfl, hB, (by show 1 ≤ sizeLine; decide), fun L2 nL2 => ?_⟩
      have s2 := same_upd (o := HO.lst [V.int (sumC (bodyC p h os) : Nat)]) nL2
      refine ⟨L, L2, _, _, rfl, rfl, s2 _ _ hB, upd_same, ?_, fun L3 nL3 => ?_⟩
      · rw [nints_len, bodyC_len]
        show 4 + 5 * os.length + 1 ≤ sizeLine
        exact Nat.le_of_lt (small1000 (by omega))
      · have s3 := same_upd (o := HO.lst (nints (bodyC p h os) ++ [V.int (sumC (bodyC p h os) : Nat)])) nL3
        refine q _ L3 (s1.trans (s2.trans s3)) (s1.free (s2.free nL3)) ?_
        rw [upd_same]
        unfold codeOf
        rw [nints_app]
        rfl
end
abbrev s_read_byte : Stmt := top 37
abbrev N_read_byte : List Str := ["code", "place", "low", "high"]
abbrev P_read_byte : List Str := ["code", "place", "low", "high"]
theorem sc_read_byte : FnScope N_read_byte P_read_byte (defScope s_read_byte) := ⟨rfl, rfl, rfl, by decide +kernel, rfl, by decide +kernel, by decide +kernel⟩
abbrev s_read_order : Stmt := top 38
abbrev N_read_order : List Str := ["code", "place", "period", "houses", "source", "target", "first", "days", "delay"]
abbrev P_read_order : List Str := ["code", "place", "period", "houses"]
theorem sc_read_order : FnScope N_read_order P_read_order (defScope s_read_order) := ⟨rfl, rfl, rfl, by decide +kernel, rfl, by decide +kernel, by decide +kernel⟩
abbrev s_decode : Stmt := top 35
abbrev N_decode : List Str := ["code", "period", "houses", "many", "end", "orders", "expected", "place"]
abbrev P_decode : List Str := ["code"]
theorem sc_decode : FnScope N_decode P_decode (defScope s_decode) := ⟨rfl, rfl, rfl, by decide +kernel, rfl, by decide +kernel, by decide +kernel⟩
/-! ### decode, of the bytes of a net -/
def spByte : Sp := fun vs H Q _ => ∃ (a : Addr) (l : List Nat) (k n lo hi : Nat), vs = [.ref a, .int k, .int lo, .int hi] ∧ H a = some (.lst (nints l)) ∧ l[k]? = some n ∧ lo ≤ n ∧ n ≤ hi ∧ Q (.int n) H
def spROrd : Sp := fun vs H Q _ => ∃ (a : Addr) (l : List Nat) (k p h : Nat) (o : Od), vs = [.ref a, .int k, .int p, .int h] ∧ H a = some (.lst (nints l)) ∧ OdOk p h o ∧ (∀ j, j < 5 → l[k + j]? = (o5 o)[j]?) ∧
  ∀ H' t, Same H H' → H t = none → H' t = some (.tup o.vs) → Q (.ref t) H'
def spDecode (C : Addr) : Sp := fun vs H Q _ => ∃ (a : Addr) (p h : Nat) (os : List Od), vs = [.ref a] ∧ H a = some (.lst (nints (codeOf p h os))) ∧ NetOk p h os ∧
  ∀ H' x t F, Same H H' → (∀ b ∈ F, H b = none) → NetAt C H' x p h os t F → Q (.ref x) H'
theorem rngC5 {n : Nat} (h : n ≤ 1000) : RgC 4 ((4 + 5 * n : Nat) : Int) 5 n := by
  have e : PySem.Builtin.Range.rangeSize 4 ((4 + 5 * n : Nat) : Int) 5 = n := by
    unfold PySem.Builtin.Range.rangeSize
    rw [if_pos (by decide)]
    by_cases c : n = 0
    · subst c
      rfl
    · rw [if_pos (by omega)]
      omega
  refine ⟨by decide, by decide, ?_, e⟩
  have fit : ∀ i : Int, -(2 ^ 62) ≤ i → i < 2 ^ 62 → PySem.Builtin.Range.rangeFitsLong i = true := fun i h1 h2 => by
    unfold PySem.Builtin.Range.rangeFitsLong
    rw [decide_eq_true (show -(2 ^ 63) ≤ i by omega), decide_eq_true (show i < 2 ^ 63 by omega)]
    rfl
  unfold PySem.Builtin.Range.small
  rw [e, fit 4 (by decide) (by decide), fit _ (by omega) (by omega), fit 5 (by decide) (by decide), fit (n : Int) (by omega) (by omega), if_pos (by decide), fit (((4 + 5 * n : Nat) : Int) + (5 - 1)) (by omega) (by omega), Bool.or_true]
  rfl
theorem ite_tC {c : Bool} {m n : Nat} {ρ : L2.St} {H : Hp} {Q : VK} (h : Q (.int ((if c = true then m else n : Nat) : Int)) H) : (if c = true then tC (.int (m : Nat)) ρ H Q else tC (.int (n : Nat)) ρ H Q) := by
  cases c
  · exact h
  · exact h
section
variable {P : Program} {w : World} {K : PySem.W.Frag} {mg : Str → Option Value} {base : Heap}
theorem ok_byte {f : Addr} {fd : FuncData} (F : Fun K "read_byte" "read_byte" s_read_byte f fd) (B : Blt mg) (DW : Df P w K mg base "is_within" 2 P_is_within (spWithin K)) : FnOk P w K mg base CX0 3 f fd P_read_byte spByte := by
  obtain ⟨fW, fdW, gW, kW, bW, GW⟩ := DW
  refine F.ok sc_read_byte (fun vs H Q E h => ?_) (fun cdv A outer s H vs Q E hr h => ?_)
  · obtain ⟨a, l, k, n, lo, hi, rfl, _⟩ := h
    rfl
  · obtain ⟨a, l, k, n, lo, hi, rfl, ha, hk, h1, h2, q⟩ := h
    refine ⟨_, pss_cons (ps_if (PW.pt (pw_or (pt_cmpR op_ge (pv 1) (pe_callB call_len_seq (by rfl) B.len PySem.boot_len (pa_cons (pv 0) pa_nil)) (nomark _))
        (pw_or1 (pt_not (pt_val (pe_call GW hr (by rfl) gW kW bW .nil pass0 (pa_cons (pe_ix ix_list (pv 0) (pv 1) (fun _ _ => rfl)) (pa_cons (pv 2) (pa_cons (pv 3) pa_nil)))))))))
        (pss_one ps_never) pss_nil)
      (pss_one (ps_ret (pe_ix ix_list (pv 0) (pv 1) (fun _ _ => rfl)))), ?_⟩
    have lt : k < l.length := (List.getElem?_eq_some_iff.mp hk).1
    have e0 : (decide (((nints l).length : Int) ≤ (k : Int))) = false := decide_eq_false (by rw [nints_len]; omega)
    have eA := atI_nat (j := k) (nints_at hk)
    refine ⟨_, rfl, _, rfl, a, _, rfl, .inl (SqL.of ha), _, _, rfl, rfl, _, rfl, ?_⟩
    rw [e0]
    refine iteF ⟨_, rfl, _, rfl, a, _, k, _, rfl, rfl, SqL.of ha, eA, _, rfl, _, rfl, _, lo, hi, rfl, .int, _, rfl, ?_⟩
    rw [within_nat h1 h2]
    exact iteF ⟨_, rfl, _, rfl, a, _, k, _, rfl, rfl, SqL.of ha, eA, q⟩
theorem ok_rord {f : Addr} {fd : FuncData} (F : Fun K "read_order" "read_order" s_read_order f fd) (hD : ∃ t, mg "LONGEST_DELAY" = some (.int 9 t)) (DB : Df P w K mg base "read_byte" 3 P_read_byte spByte) : FnOk P w K mg base CX0 4 f fd P_read_order spROrd := by
  obtain ⟨fB, fdB, gB, kB, bB, GB⟩ := DB
  obtain ⟨tk, hD⟩ := hD
  refine F.ok sc_read_order (fun vs H Q E h => ?_) (fun cdv A outer s H vs Q E hr h => ?_)
  · obtain ⟨a, l, k, p, h, o, rfl, _⟩ := h
    rfl
  · obtain ⟨a, l, k, p, h, o, rfl, ha, ok, hj, q⟩ := h
    refine ⟨_, pss_cons (ps_set (i := 4) sc_read_order.nd rfl (.inl rfl) (pe_call GB hr (by rfl) gB kB bB .nil pass0 (pa_cons (pv 0) (pa_cons (pv 1) (pa_cons pe_int (pa_cons (pe_op op_sub (pv 3) pe_int) pa_nil))))))
      (pss_cons (ps_set (i := 5) sc_read_order.nd rfl (.inl rfl) (pe_call GB hr (by rfl) gB kB bB .nil pass0 (pa_cons (pv 0) (pa_cons (pe_op op_add (pv 1) pe_int) (pa_cons pe_int (pa_cons (pe_op op_sub (pv 3) pe_int) pa_nil))))))
      (pss_cons (ps_if (pt_cmpR op_eq (pv 5) (pv 4) (nomark _)) (pss_one ps_never) pss_nil)
      (pss_cons (ps_set (i := 6) sc_read_order.nd rfl (.inl rfl) (pe_call GB hr (by rfl) gB kB bB .nil pass0 (pa_cons (pv 0) (pa_cons (pe_op op_add (pv 1) pe_int) (pa_cons pe_int (pa_cons (pe_op op_sub (pv 2) pe_int) pa_nil))))))
      (pss_cons (ps_set (i := 7) sc_read_order.nd rfl (.inl rfl) (pe_call GB hr (by rfl) gB kB bB .nil pass0 (pa_cons (pv 0) (pa_cons (pe_op op_add (pv 1) pe_int) (pa_cons pe_int (pa_cons (pv 2) pa_nil))))))
      (pss_cons (ps_set (i := 8) sc_read_order.nd rfl (.inl rfl) (pe_call GB hr (by rfl) gB kB bB .nil pass0 (pa_cons (pv 0) (pa_cons (pe_op op_add (pv 1) pe_int) (pa_cons pe_int (pa_cons (pe_glob (v := .int 9) rfl hD ⟨_, rfl⟩) pa_nil))))))
      (pss_one (ps_ret (pe_tup (pa_cons (pv 4) (pa_cons (pv 5) (pa_cons (pv 6) (pa_cons (pv 7) (pa_cons (pv 8) pa_nil))))))))))))), ?_⟩
    have g1 := ok.s; have g2 := ok.t; have g3 := ok.st; have g4 := ok.f; have g5 := ok.n1; have g6 := ok.n; have g7 := ok.e1; have g8 := ok.e
    have e1 : ((h : Int) - 1) = ((h - 1 : Nat) : Int) := by omega
    have e2 : ((p : Int) - 1) = ((p - 1 : Nat) : Int) := by omega
    have j0 := hj 0 (by decide)
    have j1 := hj 1 (by decide)
    have j2 := hj 2 (by decide)
    have j3 := hj 3 (by decide)
    have j4 := hj 4 (by decide)
    refine ⟨_, rfl, _, rfl, _, rfl, _, _, rfl, rfl, a, l, k, o.s, 0, h - 1, congrArg (fun z : Int => [V.ref a, V.int (k : Nat), V.int 0, V.int z]) e1, ha, j0, by omega, by omega, ?_⟩
    refine ⟨_, rfl, _, rfl, _, _, rfl, rfl, _, rfl, _, _, rfl, rfl, a, l, k + 1, o.t, 0, h - 1, congrArg (fun z : Int => [V.ref a, V.int (k + 1 : Nat), V.int 0, V.int z]) e1, ha, j1, by omega, by omega, ?_⟩
    refine ⟨_, rfl, _, rfl, rfl, _, rfl, ?_⟩
    rw [show decide (V.int ((o.t : Nat) : Int) = V.int ((o.s : Nat) : Int)) = false from decide_eq_false fun z => g3 (by have z2 := V.int.inj z; omega)]
    refine iteF ?_
    refine ⟨_, rfl, _, rfl, _, _, rfl, rfl, _, rfl, _, _, rfl, rfl, a, l, k + 2, o.f, 0, p - 1, congrArg (fun z : Int => [V.ref a, V.int (k + 2 : Nat), V.int 0, V.int z]) e2, ha, j2, by omega, by omega, ?_⟩
    refine ⟨_, rfl, _, rfl, _, _, rfl, rfl, _, rfl, a, l, k + 3, o.n, 1, p, rfl, ha, j3, by omega, by omega, ?_⟩
    refine ⟨_, rfl, _, rfl, _, _, rfl, rfl, a, l, k + 4, o.e, 1, 9, rfl, ha, j4, by omega, by omega, ?_⟩
    refine ⟨_, rfl, _, rfl, _, rfl, _, rfl, _, rfl, (by show 5 ≤ sizeLine; decide), fun t nt => ?_⟩
    exact q _ t (same_upd nt) nt upd_same
theorem ok_decode {f C fI : Addr} {fd fdI : FuncData} (F : Fun K "decode" "decode" s_decode f fd) (B : Blt mg) (M : Mk K C fI) (gC : mg "Net" = some (.ref C)) (GI : FnOk P w K mg base CX0 5 fI fdI P_Net_init (spInit C)) (bI : Binds K fdI P_Net_init [])
    (hF : ∃ t, mg "FIRST_BYTE" = some (.int 78 t)) (hP : ∃ t, mg "LONGEST_PERIOD" = some (.int 30 t)) (hH : ∃ t, mg "MOST_HOUSES" = some (.int 10 t)) (hM : ∃ t, mg "MOST_ORDERS" = some (.int 20 t)) (hHL : ∃ t, mg "HEAD_LENGTH" = some (.int 4 t)) (hOL : ∃ t, mg "ORDER_LENGTH" = some (.int 5 t))
    (DB : Df P w K mg base "read_byte" 3 P_read_byte spByte) (DO : Df P w K mg base "read_order" 4 P_read_order spROrd) (DS : Df P w K mg base "checksum" 1 P_checksum (spCheckS K)) : FnOk P w K mg base CX0 7 f fd P_decode (spDecode C) := by
  obtain ⟨fB, fdB, gB, kB, bB, GB⟩ := DB
  obtain ⟨fO, fdO, gO, kO, bO, GO⟩ := DO
  obtain ⟨fS, fdS, gS, kS, bS, GS⟩ := DS
  obtain ⟨tF, hF⟩ := hF
  obtain ⟨tP, hP⟩ := hP
  obtain ⟨tH, hH⟩ := hH
  obtain ⟨tM, hM⟩ := hM
  obtain ⟨tL, hHL⟩ := hHL
  obtain ⟨tO, hOL⟩ := hOL
  refine F.ok sc_decode (fun vs H Q E h => ?_) (fun cdv A outer s H vs Q E hr h => ?_)
  · obtain ⟨a, p, h, os, rfl, _⟩ := h
    rfl
  · obtain ⟨a, p, h, os, rfl, ha, nok, q⟩ := h
    have hr3 : Room 3 _ := hr.mono (by decide)
    have hr4 : Room 4 _ := hr.mono (by decide)
    have hr1 : Room 1 _ := hr.mono (by decide)
    refine ⟨_, pss_cons (ps_if (pt_not (pt_val (pe_callB call_isi (by rfl) B.isi PyProof.Rows.boot_isinstance (pa_cons (pv 0) (pa_cons (pe_bltn (v := .ty "list") (by rfl) B.list (by decide +kernel) rfl) pa_nil))))) (pss_one ps_never) pss_nil)
      (pss_cons (ps_expr (pe_call GB hr3 (by rfl) gB kB bB .nil pass0 (pa_cons (pv 0) (pa_cons pe_int (pa_cons (pe_glob (v := .int 78) rfl hF ⟨_, rfl⟩) (pa_cons (pe_glob (v := .int 78) rfl hF ⟨_, rfl⟩) pa_nil))))))
      (pss_cons (ps_set (i := 1) sc_decode.nd rfl (.inr rfl) (pe_call GB hr3 (by rfl) gB kB bB .nil pass0 (pa_cons (pv 0) (pa_cons pe_int (pa_cons pe_int (pa_cons (pe_glob (v := .int 30) rfl hP ⟨_, rfl⟩) pa_nil))))))
      (pss_cons (ps_set (i := 2) sc_decode.nd rfl (.inr rfl) (pe_call GB hr3 (by rfl) gB kB bB .nil pass0 (pa_cons (pv 0) (pa_cons pe_int (pa_cons pe_int (pa_cons (pe_glob (v := .int 10) rfl hH ⟨_, rfl⟩) pa_nil))))))
      (pss_cons (ps_set (i := 3) sc_decode.nd rfl (.inl rfl) (pe_call GB hr3 (by rfl) gB kB bB .nil pass0 (pa_cons (pv 0) (pa_cons pe_int (pa_cons pe_int (pa_cons (pe_ifExp (pt_cmpR op_gt (pv 2) pe_int (nomark _)) (pe_glob (v := .int 20) rfl hM ⟨_, rfl⟩) pe_int) pa_nil))))))
      (pss_cons (ps_set (i := 4) sc_decode.nd rfl (.inl rfl) (pe_op op_add (pe_glob (v := .int 4) rfl hHL ⟨_, rfl⟩) (pe_op op_mul (pv 3) (pe_glob (v := .int 5) rfl hOL ⟨_, rfl⟩))))
      (pss_cons (ps_setLc (i := 5) (own := [("place", 7)]) (g := gName 7) (tt := tYes) (te := tCall spROrd [] E0 (tCons (tVar 0) (tCons (tVar 7) (tCons (tVar 1) (tCons (tVar 2) tNil))))) (by rfl) sc_decode.nd rfl rfl (by rfl)
          (pi_range3 (by rfl) B.range (pa_cons (pe_glob (v := .int 4) rfl hHL ⟨_, rfl⟩) (pa_cons (pv 4) (pa_cons (pe_glob (v := .int 5) rfl hOL ⟨_, rfl⟩) pa_nil))))
          (blkOk_by (N := N_decode) (sc := defScope s_decode) (by decide +kernel)) (fun _ _ _ _ _ => pg_name (i := 7) sc_decode.nd rfl (.inl rfl)) (fun _ _ _ _ _ => pts_nil)
          (fun _ _ _ _ _ => pe_call GO hr4 (by rfl) gO kO bO .nil pass0 (pa_cons (pv 0) (pa_cons (pv 7) (pa_cons (pv 1) (pa_cons (pv 2) pa_nil))))))
      (pss_cons (ps_set (i := 6) sc_decode.nd rfl (.inl rfl) (pe_call GS hr1 (by rfl) gS kS bS .nil pass0 (pa_cons (pe_slice sl_list (pv 0) po_none (po_some (pv 4))) pa_nil)))
      (pss_cons (ps_expr (pe_call GB hr3 (by rfl) gB kB bB .nil pass0 (pa_cons (pv 0) (pa_cons (pv 4) (pa_cons (pv 6) (pa_cons (pv 6) pa_nil))))))
      (pss_cons (ps_if (pt_cmpR op_gt (pe_callB call_len_seq (by rfl) B.len PySem.boot_len (pa_cons (pv 0) pa_nil)) (pe_op op_add (pv 4) pe_int) (nomark _)) (pss_one ps_never) pss_nil)
      (pss_one (ps_ret (pe_make M GI hr (by rfl) gC bI .nil pass0 (pa_cons (pv 1) (pa_cons (pv 2) (pa_cons (pe_callTy call_tuple_of (by rfl) B.tuple (by decide +kernel) (pa_cons (pv 5) pa_nil)) pa_nil))))))))))))))), ?_⟩
    have p30 := nok.p30; have p1 := nok.p1; have h10 := nok.h10; have h1 := nok.h1; have ol := nok.len
    have c0 : (codeOf p h os)[0]? = some 78 := rfl
    have c1 : (codeOf p h os)[1]? = some p := rfl
    have c2 : (codeOf p h os)[2]? = some h := rfl
    have c3 : (codeOf p h os)[3]? = some os.length := rfl
    refine ⟨_, rfl, _, _, _, _, true, rfl, .ty "list", .base (.lst ha), kit_ty (by decide +kernel), _, rfl, iteF ?_⟩
    refine ⟨_, rfl, a, _, 0, 78, 78, 78, rfl, ha, c0, Nat.le_refl _, Nat.le_refl _, ?_⟩
    refine ⟨_, rfl, a, _, 1, p, 1, 30, rfl, ha, c1, p1, p30, ?_⟩
    refine ⟨_, rfl, a, _, 2, h, 1, 10, rfl, ha, c2, h1, h10, ?_⟩
    have hm : os.length ≤ (if decide ((1 : Int) < (h : Nat)) = true then 20 else 0 : Nat) := by
      by_cases c : (1 : Int) < (h : Nat)
      · rw [if_pos (decide_eq_true c)]
        exact ol
      · rw [if_neg (by rw [decide_eq_false c]; exact Bool.false_ne_true)]
        match os, nok with
        | [], _ => exact Nat.le_refl _
        | o :: r, nok =>
          have k0 := nok.ok o (List.mem_cons_self ..)
          have z1 := k0.s; have z2 := k0.t; have z3 := k0.st
          omega
    refine ⟨_, rfl, _, rfl, _, _, rfl, rfl, _, rfl, ite_tC (m := 20) (n := 0) ?_⟩
    refine ⟨a, _, 3, os.length, 0, _, rfl, ha, c3, Nat.zero_le _, hm, ?_⟩
    clear hm
    have eM : ((os.length : Nat) : Int) * 5 = ((5 * os.length : Nat) : Int) := by omega
    refine ⟨_, rfl, _, _, rfl, rfl, .inr ⟨by decide, by decide⟩, 4, ((5 * os.length : Nat) : Int), rfl, congrArg V.int eM, ?_⟩
    refine ⟨_, rfl, 4, ((4 + 5 * os.length : Nat) : Int), 5, os.length, rfl, rngC5 (by omega), fun D nD => ?_⟩
    have naD : a ≠ D := ne_of_none ha nD
    refine lc_steps (fun i H' => Same H H' ∧ ∃ ts, H' D = some (.lst ts) ∧ Paired (OrdAt H') ts (os.take i)) ⟨same_upd nD, [], upd_same, by rw [List.take_zero]; exact .nil⟩ ?_ ?_
    · rintro i H1 hi ⟨s1, ts, hD, hP⟩
      have ei := List.getElem?_eq_getElem hi
      have hmem := List.mem_of_getElem? ei
      generalize os[i] = o at ei hmem
      refine ⟨rfl, _, rfl, _, rfl, _, rfl, _, rfl, a, codeOf p h os, 4 + 5 * i, p, h, o, ?_, s1 _ _ ha, nok.ok _ hmem, fun j hj => code_at ei hj, fun H2 t s2 nt ht => ?_⟩
      · exact congrArg (fun z : Int => [V.ref a, V.int z, V.int (p : Nat), V.int (h : Nat)]) (show (4 : Int) + ((i : Nat) : Int) * 5 = ((4 + 5 * i : Nat) : Int) by omega)
      have hD2 := s2 _ _ hD
      have ntD : t ≠ D := fun z => by
        rw [z, hD] at nt
        cases nt
      refine ⟨ts, hD2, ?_, fun b u e => ?_, _, upd_same, ?_⟩
      · rw [hP.length, List.length_take]
        exact small1000 (by omega)
      · rw [upd_ne (ne_of_none e nD)]
        exact s2 _ _ (s1 _ _ e)
      · rw [List.take_add_one, ei]
        have sk : TupKeep H2 (upd H2 D (.lst (ts ++ [V.ref t]))) := fun b xs e => by
          rw [upd_ne (ne_of e hD2 (by intro z; cases z))]
          exact e
        refine Paired.app (Paired.mapP hP fun _ _ z => (z.keep (tk_of s2)).keep sk) (.cons ?_ .nil)
        exact ⟨t, rfl, sk _ _ ht⟩
    · rintro H1 ⟨s1, ts, hD, hP⟩
      rw [List.take_length] at hP
      have ha1 := s1 _ _ ha
      refine ⟨_, rfl, _, rfl, (((4 + 5 * os.length : Nat) : Int)), rfl, a, _, rfl, SqL.of ha1, fun L nL => ?_⟩
      rw [cut_to, show (nints (codeOf p h os)).take (4 + 5 * os.length) = nints (bodyC p h os) from by
        unfold nints
        rw [← List.map_take, code_take]]
      have sL := same_upd (o := HO.lst (nints (bodyC p h os))) nL
      have hL : (upd H1 L (.lst (nints (bodyC p h os)))) L = some (.lst (nints (bodyC p h os))) := upd_same
      have ha2 := sL _ _ ha1
      have hD2 := sL _ _ hD
      have sA := s1.trans sL
      have hP2 := Paired.mapP hP fun _ _ z => z.keep (tk_of sL)
      generalize (upd H1 L (.lst (nints (bodyC p h os)))) = H2 at sA hL ha2 hD2 hP2
      refine ⟨L, bodyC p h os, rfl, hL, ?_⟩
      refine ⟨_, rfl, _, rfl, _, rfl, _, rfl, a, codeOf p h os, 4 + 5 * os.length, sumC (bodyC p h os), sumC (bodyC p h os), sumC (bodyC p h os), rfl, ha2, code_end, Nat.le_refl _, Nat.le_refl _, ?_⟩
      refine ⟨_, rfl, a, _, rfl, .inl (SqL.of ha2), _, rfl, _, _, rfl, rfl, _, _, rfl, rfl, _, rfl, ite2 (fun c => ?_) (fun c => ?_)⟩
      · exfalso
        have c2 := of_decide_eq_true c
        rw [nints_len, codeOf_len] at c2
        omega
      refine ⟨_, rfl, _, rfl, _, rfl, D, ts, rfl, .inl ⟨SqL.of hD2, fun tt ntt => ?_⟩⟩
      have s3 := same_upd (o := HO.tup ts) ntt
      have hO : OrdsTup (upd H2 tt (.tup ts)) tt os := ⟨ts, upd_same, Paired.mapP hP2 fun _ _ z => z.keep (tk_of s3)⟩
      have sB := sA.trans s3
      generalize (upd H2 tt (.tup ts)) = H3 at sB hO
      intro x dx nx ndx nex
      have s0 : Same H3 (upd (upd H3 dx (.own x)) x (.ins C dx [])) := same_updN (same_upd ndx) nx
      exact ⟨x, dx, tt, p, h, os, H3, rfl, nok, hO.keep (tk_of s0), s0, nx, upd_same, fun H' F s9 nF N => ⟨rfl, q H' x tt F (sB.trans s9) (fun b hb => sB.free (nF b hb)) N⟩⟩
end
/-! ### an element of a comprehension raises: the comprehension passes it on -/
section
open PySem.Spec PyProof.Rows
/-- what is done behind the loop, for the one frame that it is done in -/
def compPostE (M : Model) (A : Around) (E : Value → Shared → Prop) (use : Option (Value → Sem Unit)) (Q : Value → Shared → Prop) (acc : Value) (ce : Env) (r : Result) (s' : Shared) : Prop :=
  match r, use with
  | .ok _, none => ∃ m, s'.heap.Ns ce.locals m ∧ ∀ h', Heap.SameBut ce.locals s'.heap h' → Q acc { s' with heap := h' }
  | .ok _, some u => wpAny M A (u acc) (fun _ s'' => ∃ m, s''.heap.Ns ce.locals m ∧ ∀ h', Heap.SameBut ce.locals s''.heap h' → Q .none { s'' with heap := h' }) E s'
  | .error x, _ => ∃ m, s'.heap.Ns ce.locals m ∧ ∀ h', Heap.SameBut ce.locals s'.heap h' → wpAny M A (PySem.passOn "comprehension.variables-let-go" x ce : Sem Value) (fun _ _ => False) E { s' with heap := h' }
theorem wpAny_comprehension_freeE {M : Model} {A : Around} {E : Value → Shared → Prop} {s : Shared} {env : Env} {e : Expr} {scope : Scope} {pos : Pos} {newAcc first : Sem Value} {g : Comprehension} {gs : List Comprehension} {cl : List (Str × Addr)} {use : Option (Value → Sem Unit)}
    {Q : Value → Shared → Prop}
    (hcl : clausesOf e = g :: gs) (hs : ∀ x, foldedSetIterable g.iter env x = pure x) (hclos : closureFor scope env = pure cl)
    (hkind : scope.kind = .function) (hnames : ∀ x ∈ scope.names, x.2 = .local → scope.names.lookup x.1 = some .local)
    (h : wpAny M A first (fun x s₁ => wpAny M A (pyIter x) (fun it s₂ => wpAny M A newAcc (fun acc s₃ =>
      wpAny M A (newFunctionEnv scope env.globals cl [] env.qual none .none (some env)) (fun cenv s₄ =>
        codeAny M A (.compStart e 0 it acc { cenv with scope := relabel scope env }) (compPostE M A E use Q acc { cenv with scope := relabel scope env }) s₄) E s₃) E s₂) E s₁) E s) :
    wpAny M A (comprehension e scope env pos newAcc false first use) Q E s := by
  unfold comprehension
  rw [hclos, hcl]
  refine wpAny_bind (wpAny_mono h (fun x s₁ h₁ => wpAny_bind (wpAny_standAt (wpAny_bind (wpAny_of_eq (hs x) (wpAny_bind (wpAny_holding (wpAny_mono h₁ (fun it s₂ h₂ =>
    wpAny_standIf (wpAny_bind (wpAny_mono h₂ (fun acc s₃ h₃ => wpAny_bind (wpAny_pure (wpAny_bind (wpAny_mono h₃ (fun cenv s₄ h₄ => ?_) fun _ _ h' => h')))) fun _ _ h' => h')))
      fun _ _ h' => h'))))))) fun _ _ h' => h')
  dsimp only
  have hv : ∀ x ∈ (scope.names.filter fun x => (x.2 == .local || x.2 == .cell) && x.1 != (".0" : Str)).reverse, x.2 = .local →
      Env.kindOf { cenv with scope := relabel scope env } x.1 = some .local := fun x hx hl => lookup_relabel_local (hnames x (List.mem_filter.mp (List.mem_reverse.mp hx)).1 hl)
  have hv' : ∀ x ∈ (scope.names.filter fun x => (x.2 == .local || x.2 == .cell) && x.1 != (".0" : Str)).reverse.drop 1 ++ (scope.names.filter fun x => (x.2 == .local || x.2 == .cell) && x.1 != (".0" : Str)).reverse.take 1,
      x.2 = .local → Env.kindOf { cenv with scope := relabel scope env } x.1 = some .local := fun x hx hl => by
    rcases List.mem_append.mp hx with h1 | h1
    · exact hv x (List.mem_of_mem_drop h1) hl
    · exact hv x (List.mem_of_mem_take h1) hl
  refine wpAny_holding (wpAny_bind (wpAny_attempt (wpAny_holding (wpAny_run (codeAny_mono h₄ fun r s' hr => ?_)))))
  cases r with
  | ok f =>
    cases use with
    | none =>
      obtain ⟨m, hn, hr⟩ := hr
      exact wpAny_bind (wpAny_holding (wpAny_comp_letGo (cenv := { cenv with scope := relabel scope env }) hkind _ s' m hv hn fun h' m' _ hs' => wpAny_pure (hr h' hs')))
    | some u =>
      refine wpAny_bind (wpAny_rule (wpAny_bind (wpAny_holding (wpAny_mono hr (fun _ s'' hr' => ?_) fun _ _ h' => h'))))
      obtain ⟨m, hn, hr'⟩ := hr'
      exact wpAny_bind (wpAny_comp_letGo (cenv := { cenv with scope := relabel scope env }) hkind _ s'' m hv' hn fun h' m' _ hs' => wpAny_pure (hr' h' hs'))
  | error x =>
    have hr' : ∃ m, s'.heap.Ns cenv.locals m ∧ ∀ h', Heap.SameBut cenv.locals s'.heap h' → wpAny M A (PySem.passOn "comprehension.variables-let-go" x { cenv with scope := relabel scope env } : Sem Value) (fun _ _ => False) E { s' with heap := h' } := by cases use <;> exact hr
    obtain ⟨m, hn, hr⟩ := hr'
    exact wpAny_bind (wpAny_holding (wpAny_comp_letGo (cenv := { cenv with scope := relabel scope env }) hkind _ s' m hv hn fun h' m' _ hs' => wpAny_mono (hr h' hs') (fun _ _ f => f.elim) fun _ _ y => y))
variable {X : Cx} {pins : List (Addr × Obj)} {σ : L2.St} {H : Hp} {s s' : Shared} {B : Heap} {W : WX} {E : XK}
theorem XE.of_callS {a : Addr} {H' : Hp} {cls : Value} {d : Option Addr} (I : Inv X pins σ H s) (st : B.StaysIn s'.heap) (sky : Sky B X.stack a (Zc cls d) X.env.locals s'.heap) (hok : HOk X.prog X.w H' B) (ub : UB (frs X.stack) H H' s.heap B s'.heap) (na : H' a = none) (os : s'.os = s.os) (ag : AllBare s'.gens) (w : W cls d σ H') : XE X W (.ref a) s' := by
  obtain ⟨G, g1, g2⟩ := restrict s'.heap fun b => (B.get? b).isSome || decide (b ∈ frs X.stack)
  have gB : ∀ b o, B.get? b = some o → G.get? b = some o := fun b o e => by
    rw [g1 b (by simp [e])]
    exact st b o e
  have gF : ∀ b, b ∈ frs X.stack → G.get? b = s'.heap.get? b := fun b hb => g1 b (by simp [hb])
  have og : ∀ b o, G.get? b = some o → s'.heap.get? b = some o ∧ ((B.get? b).isSome = true ∨ b ∈ frs X.stack) := fun b o e => by
    cases q : ((B.get? b).isSome || decide (b ∈ frs X.stack)) with
    | false => rw [g2 b q] at e; cases e
    | true =>
      rw [g1 b q] at e
      exact ⟨e, by simpa [Bool.or_eq_true] using q⟩
  refine ⟨a, B, { s with heap := G, gens := s'.gens, drawn := s'.drawn, toks := s'.toks }, pins, σ, H', cls, d, rfl, ?_, fun b o e hb => ?_, Heap.UpToSlots.of_keeps fun b o e => (og b o e).1, sky, na, os, ag, w⟩
  · refine I.call (ch := []) ⟨fun b o e n hb _ => gB b o (ub.keep b o e n hb), fun b o e n hb _ => ?_, fun b o e n _ => ub.free b o e n, fun b o e _ => ?_, ub.tups, ub.frzs, ub.tbls⟩ (hok.kept gB) ag (fun _ z => nomatch z)
    · obtain ⟨sl, q⟩ := ub.slot b o e hb
      exact ⟨sl, by rw [gF b hb]; exact q⟩
    · by_cases hb : b ∈ frs X.stack
      · obtain ⟨sl, q⟩ := ub.slot b o e hb
        exact ⟨_, by rw [gF b hb]; exact q⟩
      · obtain ⟨o', q⟩ := ub.there b o e hb
        exact ⟨o', gB b o' q⟩
  · obtain ⟨e', h⟩ := og b o e
    rcases h with h | h
    · obtain ⟨o', q⟩ := Option.isSome_iff_exists.mp h
      have z := st b o' q
      rw [e'] at z; cases z
      exact q
    · exact absurd h hb
theorem funFrames_but {h h' base : Heap} {C : Addr} (sb : Heap.SameBut C h h') : ∀ {l : List Env}, h.FunFrames base l → C ∉ frs l → h'.FunFrames base l
  | [], _, _ => trivial
  | env :: l, x, n => by
    obtain ⟨hk, ⟨L, o, hf, hb, ho, hd⟩, hr⟩ := x
    have nL : L ≠ C := fun z => n (z ▸ List.mem_filterMap.mpr ⟨env, List.mem_cons_self, hf⟩)
    exact ⟨hk, ⟨L, o, hf, hb, (sb.2 L nL).trans ho, hd⟩, funFrames_but sb hr fun z => n (by
      obtain ⟨e, he, q⟩ := List.mem_filterMap.mp z
      exact List.mem_filterMap.mpr ⟨e, List.mem_cons_of_mem _ he, q⟩)⟩
/-- noted by the block's frame, the block's names let go, on its way again -/
theorem noted_comp {C : Addr} {ce : Env} {H' : Hp} {sI : Shared} {u : Value} {E1 : Value → Shared → Prop} (tk : Takes X W) (hs : X.stack = X.env :: X.outer) (hf : X.env.frame = some X.env.locals) (hce : ∀ v, noteFrame v ce = noteFrame v X.env) (hfr : ce.frame = X.env.frame) (hcl : ce.locals = C)
    (I : Inv X pins σ H' sI) (hn : ∃ m, sI.heap.Ns C m) (f : FpOk X pins H' C) (hW : ∀ cls d H2, E cls d H2 → W cls d σ H2) (c : L2.CX X.prog X.w X.stack H' sI E u s') :
    wpAny (model X.prog X.w) X.A (noteFrame u ce) (fun _ s'' => ∃ m, s''.heap.Ns ce.locals m ∧ ∀ h', Heap.SameBut ce.locals s''.heap h' → wpAny (model X.prog X.w) X.A (PySem.passOn "comprehension.variables-let-go" u ce : Sem Value) (fun _ _ => False) X.xe { s'' with heap := h' }) E1 s' := by
  obtain ⟨a, B, H2, cls, d, rfl, fl, hok, ub, na, os, ag, hE⟩ := c
  obtain ⟨m, hm⟩ := hn
  have hfra : X.A.frames = some (X.env :: X.outer) := by rw [I.ok.frames, hs]
  obtain ⟨f0, f1, f2, f3, f4, f5⟩ := f
  have nC : C ∉ frs X.stack := fun hm' => by
    rcases List.mem_cons.mp (I.stkSub C hm') with z | z
    · exact f1 z
    · exact f2 z
  obtain ⟨oC, hoC⟩ : ∃ oC, sI.heap.get? C = some oC := by
    obtain ⟨o, es, n, h1, h2⟩ := hm
    exact ⟨o, h1⟩
  have hBC := ub.keep C oC hoC f0 nC
  have kC : ∀ {h : Heap}, B.StaysIn h → h.Ns C m := fun {h} st => by
    obtain ⟨o, es, n, h1, h2⟩ := hm
    obtain rfl : o = oC := Option.some.inj (h1.symm.trans hoC)
    exact ⟨o, es, n, st _ _ hBC, h2⟩
  rw [hce, hcl]
  rw [hs] at fl
  refine HandSPX.looks_onZ Zc.steady hfra hf fl fun h1 hh up => ?_
  have hh0 := hh
  obtain ⟨k1, k2, k3, oe, vs, T, oT, ts, he, hz, hd, e1, hnT, hTe, hT, hdT, e3⟩ := hh
  refine ⟨m, kC k1, fun h2 sb => ?_⟩
  have naC : a ≠ C := fun z => by rw [z, hBC] at k2; cases k2
  have nTC : T ≠ C := fun z => by rw [z, hBC] at hnT; cases hnT
  have sb2 : ∀ b, b ≠ C → h2.get? b = h1.get? b := sb.2
  let B0 := PySem.W.hideAll B [C]
  have b0B : ∀ b o, B0.get? b = some o → B.get? b = some o ∧ b ≠ C := fun b o e => ⟨PySem.W.of_hideAll _ e, fun z => by
    rw [z] at e
    rw [PySem.W.hideAll_none [C] List.mem_cons_self] at e
    cases e⟩
  have toB0 : ∀ b o, B.get? b = some o → b ≠ C → B0.get? b = some o := fun b o e n => PySem.W.hideAll_get [C] e (by simpa using n)
  have noneB0 : ∀ b, B.get? b = none → B0.get? b = none := fun b e => by
    cases q : B0.get? b with
    | none => rfl
    | some o => rw [(b0B b o q).1] at e; cases e
  have hh2 : HandSPX.HeldZ B0 (X.env :: X.outer) a (Zc cls d) X.env.locals h2 := by
    refine ⟨fun b o e => ?_, noneB0 a k2, ?_, oe, vs, T, oT, ts, (sb2 a naC).trans he, hz, hd, e1, noneB0 T hnT, hTe, (sb2 T nTC).trans hT, hdT, e3⟩
    · obtain ⟨z1, z2⟩ := b0B b o e
      exact (sb2 b z2).trans (k1 b o z1)
    · refine funFrames_but sb (funFrames_none k3 fun L hL => noneB0 L (k3.mem hL).1) ?_
      rw [← hs]
      exact nC
  unfold PySem.passOn
  refine wpAny_bind (wpAny_field ((sb2 a naC).trans he) hd e1 ?_)
  rw [if_neg (show ¬ ((Value.ref T == Value.none) = true) from by simp)]
  refine wpAny_bind ?_
  rw [hfr, hf]
  refine HandSPX.setFlight_onZ hh2 fun h3 hh3 up3 => wpAny_throw ?_
  refine tk _ _ ?_
  have I0 : Inv X pins σ H' { sI with heap := PySem.W.hideAll sI.heap [C], toks := sI.toks } := I.turned (it := C) (fun b o n e => PySem.W.hideAll_get [C] e (by simpa using n)) f0 f1 f3 f4 f5
  have toI : ∀ b o, (PySem.W.hideAll sI.heap [C]).get? b = some o → sI.heap.get? b = some o ∧ b ≠ C := fun b o e => ⟨PySem.W.of_hideAll _ e, fun z => by
    rw [z] at e
    rw [PySem.W.hideAll_none [C] List.mem_cons_self] at e
    cases e⟩
  have H2C : H2 C = none := ub.free C oC hoC f0
  refine XE.of_callS (B := B0) (H' := H2) I0 hh3.1 (by rw [hs]; exact .inr (.inr hh3)) ?_ ⟨fun b o e n hb => ?_, fun b o e hb => ?_, fun b o e n => ub.free b o (toI b o e).1 n, fun b o e hb => ?_, ub.tups, ub.frzs, ub.tbls⟩ na os ag (hW _ _ _ hE)
  · intro b o q
    refine (hok b o q).stay (fun c u hc r => toB0 c u r fun z => ?_) (fun _ r => r) fun _ _ r => r
    rcases hc with hc | hc
    · rw [← hc, z, H2C] at q; cases q
    · rw [z, H2C] at hc; cases hc
  · obtain ⟨z1, z2⟩ := toI b o e
    exact toB0 b o (ub.keep b o z1 n hb) z2
  · obtain ⟨z1, z2⟩ := toI b o e
    obtain ⟨sl, q⟩ := ub.slot b o z1 hb
    obtain ⟨o', ho', nf⟩ := (fl.2.2.1.mem (by rw [← hs]; exact hb)).2
    obtain rfl : o' = { o with slots := sl } := Option.some.inj (ho'.symm.trans q)
    obtain ⟨sl2, q2⟩ := up b _ q nf
    obtain ⟨sl3, q3⟩ := up3 b _ ((sb2 b z2).trans q2) nf
    exact ⟨sl3, q3⟩
  · obtain ⟨z1, z2⟩ := toI b o e
    obtain ⟨o', q⟩ := ub.there b o z1 hb
    exact ⟨o', toB0 b o' q z2⟩
end
/-! ### a comprehension whose element may raise -/
section
open PySem.Spec PyProof.Rows
abbrev _root_.L2.Cx.blkE (X : Cx) (s : Shared) (H : Hp) (scope : Scope) (cenv : Env) (fp : List Addr) (xe : Value → Shared → Prop) : Cx := { X with s_0 := s, H_0 := H, env := cenv, outer := X.stack, ex := fp, fn := fun x => scope.names.lookup x == some .cell, pn := [], xe := xe }
def tLcX (W : WX) (wi : TI) (g : TG) (tt : TT) (te : XK → TE) (vs : List Nat) : TE := fun σ H Q => tLc wi g tt (te fun cls d H' => W cls d σ H') vs σ H Q
variable {X : Cx}
set_option maxHeartbeats 0 in
theorem lcX_core {pins : List (Addr × Obj)} {s : Shared} {σ : L2.St} {H : Hp} {Q : VK} {elt tg iter : Expr} {ifs : List Expr} {scope : Scope} {own : List (Str × Nat)} {pos pos' : Pos} {wi : TI} {g : TG} {tt : TT} {te : XK → TE} {W : WX} {use : Option (Value → Sem Unit)} {Qf : Value → Shared → Prop}
    (tk : Takes X W) (hst : X.stack = X.env :: X.outer) (hfm : X.env.frame = some X.env.locals)
    (hc : X.calm = true) (hN : X.N.Nodup) (I : Inv X pins σ H s) (hi : PI X tg iter wi) (ok : BlkOk X.N X.env.scope scope own)
    (hg : ∀ (s : Shared) (H : Hp) (C : Addr) (cl : List (Str × Addr)) (fp : List Addr) (xe : Value → Shared → Prop), PG (X.blkE s H scope (compEnvC scope cl C X.env) fp xe) tg g) (ht : ∀ (s : Shared) (H : Hp) (C : Addr) (cl : List (Str × Addr)) (fp : List Addr) (xe : Value → Shared → Prop), PTs (X.blkE s H scope (compEnvC scope cl C X.env) fp xe) ifs tt)
    (he : ∀ (E : XK) (s : Shared) (H : Hp) (C : Addr) (cl : List (Str × Addr)) (fp : List Addr) (xe : Value → Shared → Prop), Passes (L2.CX X.prog X.w) (X.blkE s H scope (compEnvC scope cl C X.env) fp xe) E → PE (X.blkE s H scope (compEnvC scope cl C X.env) fp xe) elt (te E)) (hs : ∀ x, foldedSetIterable iter X.env x = pure x)
    (h : tLcX W wi g tt te (own.map (·.2)) σ H Q)
    (hRR : ∀ D C s' m H', Inv X pins σ H' s' → Q (.ref D) H' → s'.heap.Ns C m → FpOk X pins H' C → ∀ ce : Env, ce.locals = C → compPostE (model X.prog X.w) X.A X.xe use Qf (.ref D) ce (.ok .next) s') :
    wpAny (model X.prog X.w) X.A (comprehension (.ListComp elt [⟨tg, iter, ifs, 0⟩] scope pos) scope X.env pos' (newList []) false (eval iter X.env) use) Qf X.xe s := by
  have hfree : ∀ y ∈ scope.names, y.2 = .free → ∃ c, X.env.cells.lookup y.1 = some c := fun y hy e => by
    rcases ok.free y hy e with k | k
    · exact I.ok.has _ (.inl k)
    · exact I.ok.has _ (.inr k)
  refine wpAny_comprehension_freeE (use := use) rfl hs (closure_ok hfree) ok.kind (fun y hy e => by rw [ok.uniq y hy, e])
    (thn (hi.run pins s σ H _ I h) fun xv s1 hx => thn hx fun itv s2 h2 => ?_)
  obtain ⟨it, fp, tn, J, H2, e, I2, T, st2, f2, q⟩ := h2
  subst e
  refine wpAny_newObj_type (newEnv_comp ?_) (by show 0 ≤ sizeLine; decide)
  generalize hD : s2.heap.objs.size = D
  have hDn : H2 D = none := I2.hok.fresh (Nat.le_of_eq hD)
  obtain ⟨W2, ⟨m0, w0⟩, turn⟩ := q D hDn
  generalize hs3 : ({ s2 with heap := s2.heap.push { cls := .type "list", data := .seq ([] : List Value).toArray } } : Shared) = s3
  have I3 : Inv X pins σ (L2.upd H2 D (.lst [])) s3 := by
    rw [← hs3]
    refine I2.laid (t' := s2.toks) (fun b o e => Heap.get?_push_of_some _ e) (Nat.le_of_eq hD) ⟨Nat.zero_le _, [], 0, .nil, ?_⟩
    rw [← hD]
    exact Heap.get?_push_size _ rfl
  have h3 : s3.heap = s2.heap.push { cls := .type "list", data := .seq ([] : List Value).toArray } := by rw [← hs3]
  have sz : ∀ b ∈ fp, b < s2.heap.objs.size := fun b hb => by
    obtain ⟨o, e, _⟩ := T.obj _ _ st2 b hb
    exact Heap.lt_size e
  have f3 : ∀ b ∈ fp, FpOk X pins (L2.upd H2 D (.lst [])) b ∧ b < s3.heap.objs.size := fun b hb => by
    have hlt := sz b hb
    refine ⟨⟨?_, (f2 b hb).2⟩, by rw [h3, Heap.size_push]; exact Nat.lt_succ_of_lt hlt⟩
    rw [upd_ne (by rw [← hD]; exact Nat.ne_of_lt hlt)]
    exact (f2 b hb).1
  have st3 : tn 0 s3.heap := T.keep _ _ _ st2 fun b _ o e => by rw [h3]; exact Heap.get?_push_of_some _ e
  have nfp : ∀ b ∈ fp, (L2.upd H2 D (.lst [])) b = none := fun b hb => (f3 b hb).1.1
  have I4 := block_start I3 ok hN f3
  show codeAny _ _ (.compStart (.ListComp elt [⟨tg, iter, ifs, 0⟩] scope pos) 0 (.ref it) (.ref D) (compEnvC scope (cellsFrom (s3.heap.objs.size + 1) scope.names (cloFrom X.env.cells scope.names [])) s3.heap.objs.size X.env)) (compPostE (model X.prog X.w) X.A X.xe use Qf (.ref D) (compEnvC scope (cellsFrom (s3.heap.objs.size + 1) scope.names (cloFrom X.env.cells scope.names [])) s3.heap.objs.size X.env)) { s3 with heap := pushCells (s3.heap.push { cls := .type "dict", data := .dict #[] }) scope.names }
  have pg0 := fun xe => hg s3 (L2.upd H2 D (.lst [])) s3.heap.objs.size (cellsFrom (s3.heap.objs.size + 1) scope.names (cloFrom X.env.cells scope.names [])) fp xe
  have pt0 := fun xe => ht s3 (L2.upd H2 D (.lst [])) s3.heap.objs.size (cellsFrom (s3.heap.objs.size + 1) scope.names (cloFrom X.env.cells scope.names [])) fp xe
  have pe0 := fun xe => he (fun cls d H' => W cls d σ H') s3 (L2.upd H2 D (.lst [])) s3.heap.objs.size (cellsFrom (s3.heap.objs.size + 1) scope.names (cloFrom X.env.cells scope.names [])) fp xe
  have ceN : ∀ v, noteFrame v (compEnvC scope (cellsFrom (s3.heap.objs.size + 1) scope.names (cloFrom X.env.cells scope.names [])) s3.heap.objs.size X.env) = noteFrame v X.env := fun v => rfl
  have ceF : (compEnvC scope (cellsFrom (s3.heap.objs.size + 1) scope.names (cloFrom X.env.cells scope.names [])) s3.heap.objs.size X.env).frame = X.env.frame := rfl
  have cL : (compEnvC scope (cellsFrom (s3.heap.objs.size + 1) scope.names (cloFrom X.env.cells scope.names [])) s3.heap.objs.size X.env).locals = s3.heap.objs.size := rfl
  generalize hce : compEnvC scope (cellsFrom (s3.heap.objs.size + 1) scope.names (cloFrom X.env.cells scope.names [])) s3.heap.objs.size X.env = ce at I4 pg0 pt0 pe0 ceN ceF cL ⊢
  generalize hH3 : L2.upd H2 D (.lst []) = H3 at I3 I4 pg0 pt0 pe0 w0 nfp f3
  generalize hs4 : ({ s3 with heap := pushCells (s3.heap.push { cls := .type "dict", data := .dict #[] }) scope.names } : Shared) = s4 at I4 ⊢
  have st4 : tn 0 s4.heap := T.keep _ _ _ st3 fun b _ o e => by rw [← hs4]; exact pushCells_keeps _ _ _ _ (Heap.get?_push_of_some _ e)
  -- what may fly in the block
  let xe : Value → Shared → Prop := fun e s' => ∃ (H' : Hp) (sI : Shared), Inv X pins σ H' sI ∧ (∃ m, sI.heap.Ns s3.heap.objs.size m) ∧ FpOk X pins H' s3.heap.objs.size ∧ L2.CX X.prog X.w X.stack H' sI (fun cls d H2 => W cls d σ H2) e s'
  let R : Result → Shared → Prop := compPostE (model X.prog X.w) X.A X.xe use Qf (.ref D) ce
  have noted : ∀ e s', xe e s' → notedBy (model X.prog X.w) X.A ce (fun e s' => R (.error e) s') e s' := fun e s' ⟨H', sI, J1, J2, J3, c⟩ => noted_comp (E := fun cls d H2 => W cls d σ H2) tk hst hfm ceN ceF cL J1 J2 J3 (fun _ _ _ z => z) c
  have back : ∀ {pinsB : List (Addr × Obj)} {σ' : L2.St} {H' : Hp} {s' : Shared}, Inv (X.blkE s3 H3 scope ce fp xe) pinsB σ' H' s' → Inv X pins σ H' s' ∧ (∃ m, s'.heap.Ns s3.heap.objs.size m) ∧ FpOk X pins H' s3.heap.objs.size := fun {pinsB σ' H' s'} I6 => by
    have nC : H' s3.heap.objs.size = none := by
      have z : H' ce.locals = none := I6.free
      rw [cL] at z
      exact z
    obtain ⟨m, hn, _⟩ := I6.loc
    have hn : s'.heap.Ns ce.locals m := hn
    rw [cL] at hn
    exact ⟨I3.call' (ch := fp) I6.os I6.base I6.hok I6.bare fun b hb => ⟨(f3 b hb).1.2.2.2.1, (f3 b hb).1.2.1, (f3 b hb).1.2.2.2.2.1, (f3 b hb).1.2.2.2.2.2⟩, ⟨m, hn⟩, I3.fpOk (Nat.le_refl _) nC⟩
  have pg := pg0 xe
  have pt := pt0 xe
  have pe := pe0 xe fun pinsB σ' H' sI e s' IB c => by
    obtain ⟨J1, J2, J3⟩ := back IB
    exact ⟨H', sI, J1, J2, J3, c⟩
  have I4 : Inv (X.blkE s3 H3 scope ce fp xe) [] (wipe σ (own.map (·.2))) H3 s4 := I4.toTry xe
  have stat : ∀ {σ' : L2.St} {H' : Hp} {s' : Shared}, Inv (X.blkE s3 H3 scope ce fp xe) [] σ' H' s' → (∀ b ∈ fp, H' b = none) → ∀ b ∈ fp, FpOk (X.blkE s3 H3 scope ce fp xe) [] H' b := fun {σ' H' s'} I' hn b hb =>
    ⟨hn b hb, (I'.ok.exf b hb).1, I'.ok.exfs b hb, .inl hb, fun x c e => (I'.ok.exf b hb).2 x c e, fun p hp => absurd (show p ∈ ([] : List (Addr × Obj)) ++ [] from hp) (by simp)⟩
  have loop : codeAny (model X.prog X.w) X.A (.compLoop (.ListComp elt [⟨tg, iter, ifs, 0⟩] scope pos) 0 (.ref it) (.ref D) ce) R s4 := by
    refine compLoop_any (fun n s' => ∃ i H', Inv (X.blkE s3 H3 scope ce fp xe) [] (wipe σ (own.map (·.2))) H' s' ∧ tn i s'.heap ∧ (∀ b ∈ fp, H' b = none) ∧ W2 i n H') ?_ m0 ⟨0, H3, I4, st4, nfp, w0⟩
    rintro n s5 ⟨i, H5, I5, st5, n5, w5⟩
    rcases turn i n H5 w5 with ⟨stop, qq⟩ | ⟨go, Nx, hNx, step⟩
    · have td := T.done (X.blkE s3 H3 scope ce fp xe) rfl rfl rfl hc i [] s5 _ H5 (fun _ _ => False) I5 (stat I5 n5) st5 stop
      refine thnF td fun r s6 ⟨hr, I6⟩ => ?_
      subst hr
      obtain ⟨I7, ⟨m, hn⟩, f7⟩ := back I6
      exact hRR D s3.heap.objs.size s6 m H5 I7 qq hn f7 ce cL
    · have ti := T.item (X.blkE s3 H3 scope ce fp xe) rfl rfl rfl hc i [] s5 _ H5 (fun _ _ => False) I5 (stat I5 n5) st5 go
      refine thnF ti fun r s6 ⟨u, hr, h6⟩ => ?_
      subst hr
      refine thnF h6 fun _ s7 ⟨x, H7, I7, r7, y7, st7, n7⟩ => ?_
      have I7' := I7.pinned (stat I7 n7) (T.obj _ _ st7)
      refine wpAny_mono (pg.run _ s7 _ H7 x u _ I7' r7 (step x H7 y7)) (fun _ s8 ⟨σ8, H8, I8, hw8, q8⟩ => ?_) noted
      refine wpAny_mono (pt.run _ s8 σ8 H8 _ I8 q8) (fun b s9 ⟨H9, I9, q9⟩ => ?_) noted
      have fin : ∀ {s' : Shared} {H' : Hp}, Inv (X.blkE s3 H3 scope ce fp xe) ([] ++ pinsAt fp s7.heap) σ8 H' s' → Nx H' → ∃ m, m < n ∧ ∃ i H', Inv (X.blkE s3 H3 scope ce fp xe) [] (wipe σ (own.map (·.2))) H' s' ∧ tn i s'.heap ∧ (∀ b ∈ fp, H' b = none) ∧ W2 i m H' := fun {s' H'} I' nx => by
        obtain ⟨m', hm, w'⟩ := hNx H' nx
        have pin' : ∀ b ∈ fp, ∀ o, s7.heap.get? b = some o → s'.heap.get? b = some o ∧ H' b = none := fun b hb o e =>
          let z := I'.pin (b, o) (List.mem_append_right _ (List.mem_append_right _ (mem_pinsAt hb e)))
          ⟨z.1, z.2.1⟩
        have hl : (wipe σ (own.map (·.2))).length = σ8.length := by rw [← hw8, wipe_length]
        refine ⟨m', hm, i + 1, H', (I'.unpinned (pins := [])).weak hl (fun j v e => ?_), T.keep _ _ _ st7 fun b hb o e => (pin' b hb o e).1, fun b hb => ?_, w'⟩
        · rw [← hw8] at e
          exact (wipe_some e).1
        · obtain ⟨o, e, _⟩ := T.obj _ _ st7 b hb
          exact (pin' b hb o e).2
      cases b with
      | false =>
        simp only [Bool.false_eq_true, if_false] at q9 ⊢
        exact fin I9 q9
      | true =>
        simp only [if_true] at q9 ⊢
        refine wpAny_mono (pe.run _ s9 σ8 H9 _ I9 q9) (fun z s10 ⟨yv, H10, I10, r10, acc, hD10, hz10, nx⟩ => ?_) noted
        exact app_ok (X := X.blkE s3 H3 scope ce fp xe) I10 hD10 hz10 r10 fun s11 I11 => fin I11 nx
  exact codeAny_compStart_list loop (T.self X.A 0 _ _ _ st4 loop)
/-- as a value -/
theorem pe_lcX {elt tg iter : Expr} {ifs : List Expr} {scope : Scope} {own : List (Str × Nat)} {pos : Pos} {wi : TI} {g : TG} {tt : TT} {te : XK → TE} {W : WX} (tk : Takes X W) (hst : X.stack = X.env :: X.outer) (hfm : X.env.frame = some X.env.locals) (hc : X.calm = true) (hN : X.N.Nodup) (hi : PI X tg iter wi) (ok : BlkOk X.N X.env.scope scope own)
    (hg : ∀ (s : Shared) (H : Hp) (C : Addr) (cl : List (Str × Addr)) (fp : List Addr) (xe : Value → Shared → Prop), PG (X.blkE s H scope (compEnvC scope cl C X.env) fp xe) tg g) (ht : ∀ (s : Shared) (H : Hp) (C : Addr) (cl : List (Str × Addr)) (fp : List Addr) (xe : Value → Shared → Prop), PTs (X.blkE s H scope (compEnvC scope cl C X.env) fp xe) ifs tt)
    (he : ∀ (E : XK) (s : Shared) (H : Hp) (C : Addr) (cl : List (Str × Addr)) (fp : List Addr) (xe : Value → Shared → Prop), Passes (L2.CX X.prog X.w) (X.blkE s H scope (compEnvC scope cl C X.env) fp xe) E → PE (X.blkE s H scope (compEnvC scope cl C X.env) fp xe) elt (te E)) (hs : ∀ x, foldedSetIterable iter X.env x = pure x := by intro _; rfl) :
    PE X (.ListComp elt [⟨tg, iter, ifs, 0⟩] scope pos) (tLcX W wi g tt te (own.map (·.2))) := by
  refine ⟨fun pins s σ H Q I h => ?_⟩
  rw [eval_ListComp]
  refine lcX_core tk hst hfm hc hN I hi ok hg ht he hs h fun D C s' m H' I' q hn f ce hce => ⟨m, by rw [hce]; exact hn, fun h'' sb => ?_⟩
  rw [hce] at sb
  obtain ⟨f0, f1, f2, f3, f4, f5⟩ := f
  exact ⟨.ref D, H', I'.turned (t' := s'.toks) (fun b o hb e => (sb.2 b hb).trans e) f0 f1 f3 f4 f5, rfl, q⟩
/-- name = [..] on one line, the name a local -/
theorem ps_setLcX {i : Nat} {y : Str} {py : Pos} {elt tg iter : Expr} {ifs : List Expr} {scope : Scope} {own : List (Str × Nat)} {pos spos : Pos} {wi : TI} {g : TG} {tt : TT} {te : XK → TE} {W : WX} (tk : Takes X W) (hst : X.stack = X.env :: X.outer) (hfm : X.env.frame = some X.env.locals) (hc : X.calm = true) (hN : X.N.Nodup) (hy : X.N[i]? = some y) (hyl : X.env.scope.names.lookup y = some .local)
    (hsw : swapsWith (.ListComp elt [⟨tg, iter, ifs, 0⟩] scope pos) (some (.Name y py)) spos.line X.env = pure true) (hi : PI X tg iter wi) (ok : BlkOk X.N X.env.scope scope own)
    (hg : ∀ (s : Shared) (H : Hp) (C : Addr) (cl : List (Str × Addr)) (fp : List Addr) (xe : Value → Shared → Prop), PG (X.blkE s H scope (compEnvC scope cl C X.env) fp xe) tg g) (ht : ∀ (s : Shared) (H : Hp) (C : Addr) (cl : List (Str × Addr)) (fp : List Addr) (xe : Value → Shared → Prop), PTs (X.blkE s H scope (compEnvC scope cl C X.env) fp xe) ifs tt)
    (he : ∀ (E : XK) (s : Shared) (H : Hp) (C : Addr) (cl : List (Str × Addr)) (fp : List Addr) (xe : Value → Shared → Prop), Passes (L2.CX X.prog X.w) (X.blkE s H scope (compEnvC scope cl C X.env) fp xe) E → PE (X.blkE s H scope (compEnvC scope cl C X.env) fp xe) elt (te E)) (hs : ∀ x, foldedSetIterable iter X.env x = pure x := by intro _; rfl) :
    PS X (.Assign [.Name y py] (.ListComp elt [⟨tg, iter, ifs, 0⟩] scope pos) spos) (tAsg (tLcX W wi g tt te (own.map (·.2))) (gName i)) := by
  refine ⟨fun pins s σ H D I h => ?_⟩
  rw [exec_Assign_Name_used _ _ _ _ hsw]
  refine wpAny_bind (wpAny_standAt (wpAny_bind ?_))
  show wpAny _ X.A (do let _ ← comprehension (.ListComp elt [⟨tg, iter, ifs, 0⟩] scope pos) scope X.env (firstIterPos [⟨tg, iter, ifs, 0⟩] pos) (newList []) false (eval iter X.env) (some (assign (.Name y py) X.env))) _ _ s
  have h : tLcX W wi g tt te (own.map (·.2)) σ H (fun x H1 => gName i x σ H1 D.nx) := h
  refine wpAny_bind (thn (lcX_core (Qf := fun _ s' => SP X pins D .next s') tk hst hfm hc hN I hi ok hg ht he hs h fun L C s' m H' I' q hn f ce hce => ?_) fun _ s' hq => wpAny_pure (wpAny_pure hq))
  show wpAny _ _ (assign (.Name y py) X.env (.ref L)) _ _ _
  refine wpAny_assign_Name (store_ok2 (v := V.ref L) I' hN hy (.inl hyl) rfl (fun s2 I2 ⟨a, sb, ha⟩ => ?_) (.inr hyl))
  obtain ⟨f0, f1, f2, f3, f4, f5⟩ := f
  have haC : C ≠ a := by
    rcases ha with z | z
    · rw [z]; exact f1
    · exact fun e => f4 y a z e.symm
  rw [hce]
  refine ⟨m, hn.sameBut sb haC, fun h3 sb3 => ?_⟩
  exact ⟨_, H', I2.turned (t' := s2.toks) (fun b o hb e => (sb3.2 b hb).trans e) f0 f1 f3 f4 f5, q⟩
end
/-! ### where decoding stops -/
def rdB (xs : List V) (k lo hi : Nat) : Option Nat := match xs[k]? with
  | some (.int n) => if (lo : Int) ≤ n ∧ n ≤ hi then some n.toNat else none
  | _ => none
theorem rdB_some {xs : List V} {k lo hi n : Nat} (h : rdB xs k lo hi = some n) : xs[k]? = some (.int n) ∧ lo ≤ n ∧ n ≤ hi := by
  unfold rdB at h
  split at h
  · rename_i m e
    split at h
    · rename_i c
      obtain rfl := Option.some.inj h
      have z : ((m.toNat : Nat) : Int) = m := Int.toNat_of_nonneg (by omega)
      exact ⟨by rw [z]; exact e, by omega, by omega⟩
    · cases h
  · cases h
theorem rdB_ok {xs : List V} {k lo hi n : Nat} (e : xs[k]? = some (.int n)) (h1 : lo ≤ n) (h2 : n ≤ hi) : rdB xs k lo hi = some n := by
  unfold rdB
  rw [e]
  show (if (lo : Int) ≤ n ∧ (n : Int) ≤ hi then some (n : Int).toNat else none) = some n
  rw [if_pos ⟨by omega, by omega⟩]
  rfl
theorem rdB_none {xs : List V} {k lo hi : Nat} (h : rdB xs k lo hi = none) : xs.length ≤ k ∨ ∃ x, xs[k]? = some x ∧ withinB x lo hi = false := by
  by_cases c : k < xs.length
  · have e := List.getElem?_eq_getElem c
    refine .inr ⟨xs[k], e, ?_⟩
    unfold rdB at h
    rw [e] at h
    generalize xs[k] = x at h
    cases x with
    | int n =>
      have h : (if (lo : Int) ≤ n ∧ n ≤ hi then some n.toNat else none) = none := h
      by_cases z : (lo : Int) ≤ n ∧ n ≤ hi
      · rw [if_pos z] at h; cases h
      · show (decide ((lo : Int) ≤ n) && decide (n ≤ (hi : Int))) = false
        by_cases y : (lo : Int) ≤ n
        · rw [decide_eq_false fun w => z ⟨y, w⟩, Bool.and_false]
        · rw [decide_eq_false y, Bool.false_and]
    | _ => rfl
  · exact .inl (by omega)
def ordF (xs : List V) (k p h : Nat) : Nat ⊕ Od := match rdB xs k 0 (h - 1) with
  | none => .inl k
  | some s => match rdB xs (k + 1) 0 (h - 1) with
    | none => .inl (k + 1)
    | some t => if t = s then .inl (k + 1) else match rdB xs (k + 2) 0 (p - 1) with
      | none => .inl (k + 2)
      | some f => match rdB xs (k + 3) 1 p with
        | none => .inl (k + 3)
        | some n => match rdB xs (k + 4) 1 9 with
          | none => .inl (k + 4)
          | some e => .inr ⟨s, t, f, n, e⟩
def ordsF (xs : List V) (p h : Nat) : Nat → Nat → Option Nat
  | 0, _ => none
  | m + 1, k => match ordF xs k p h with
    | .inl i => some i
    | .inr _ => ordsF xs p h m (k + 5)
def natV : V → Nat
  | .int n => n.toNat
  | _ => 0
def sumV (xs : List V) (e : Nat) : Nat := ((xs.take e).map natV).sum % 256
def decF (xs : List V) : Option Nat := match rdB xs 0 78 78 with
  | none => some 0
  | some _ => match rdB xs 1 1 30 with
    | none => some 1
    | some p => match rdB xs 2 1 10 with
      | none => some 2
      | some h => match rdB xs 3 0 (if h > 1 then 20 else 0) with
        | none => some 3
        | some n => match ordsF xs p h n 4 with
          | some i => some i
          | none => match rdB xs (4 + 5 * n) (sumV xs (4 + 5 * n)) (sumV xs (4 + 5 * n)) with
            | none => some (4 + 5 * n)
            | some _ => if xs.length > 5 + 5 * n then some (5 + 5 * n) else none
theorem ordF_inr {xs : List V} {k p h : Nat} {o : Od} (e : ordF xs k p h = .inr o) (h1 : 1 ≤ h) (p1 : 1 ≤ p) : OdOk p h o ∧ ∀ j, j < 5 → xs[k + j]? = ((o5 o)[j]?).map fun n => V.int (n : Nat) := by
  unfold ordF at e
  split at e
  · cases e
  rename_i s e0
  split at e
  · cases e
  rename_i t e1
  split at e
  · cases e
  rename_i nst
  split at e
  · cases e
  rename_i f e2
  split at e
  · cases e
  rename_i n e3
  split at e
  · cases e
  rename_i d e4
  cases e
  obtain ⟨a0, b0, c0⟩ := rdB_some e0
  obtain ⟨a1, b1, c1⟩ := rdB_some e1
  obtain ⟨a2, b2, c2⟩ := rdB_some e2
  obtain ⟨a3, b3, c3⟩ := rdB_some e3
  obtain ⟨a4, b4, c4⟩ := rdB_some e4
  refine ⟨⟨by show s < h; omega, by show t < h; omega, fun z => nst z.symm, by show f < p; omega, b3, c3, b4, c4⟩, fun j hj => ?_⟩
  match j, hj with
  | 0, _ => exact a0
  | 1, _ => exact a1
  | 2, _ => exact a2
  | 3, _ => exact a3
  | 4, _ => exact a4
section
variable {xs : List V} {p h : Nat} {os : List Od} {at_ : Nat}
/-- up to a place the values are those of a net, and there none that is in its bounds -/
structure CutAt (xs : List V) (p h : Nat) (os : List Od) (at_ : Nat) : Prop where
  ok : NetOk p h os
  eq : ∀ j, j < at_ → ∀ v, (codeOf p h os)[j]? = some v → xs[j]? = some (.int v)
  no : ∀ v, (codeOf p h os)[at_]? = some v → ∀ lo hi, lo ≤ v → v ≤ hi → hi ≤ 255 → (at_ = 4 + 5 * os.length → lo = v ∧ hi = v) → rdB xs at_ lo hi = none
theorem CutAt.rd (S : CutAt xs p h os at_) {k v lo hi : Nat} (e : (codeOf p h os)[k]? = some v) (lt : k ≤ at_) (h1 : lo ≤ v) (h2 : v ≤ hi) (h3 : hi ≤ 255) (h4 : k = 4 + 5 * os.length → lo = v ∧ hi = v) : rdB xs k lo hi = if k = at_ then none else some v := by
  by_cases c : k = at_
  · subst c
    rw [if_pos rfl]
    exact S.no v e lo hi h1 h2 h3 h4
  · rw [if_neg c]
    exact rdB_ok (S.eq k (by omega) v e) h1 h2
theorem CutAt.ord (S : CutAt xs p h os at_) {i : Nat} {o : Od} (e : os[i]? = some o) (le : 4 + 5 * i ≤ at_) : ordF xs (4 + 5 * i) p h = if at_ < 4 + 5 * i + 5 then .inl at_ else .inr o := by
  have lt : i < os.length := (List.getElem?_eq_some_iff.mp e).1
  have k := S.ok.ok o (List.mem_of_getElem? e)
  have z1 := k.s; have z2 := k.t; have z3 := k.st; have z4 := k.f; have z5 := k.n1; have z6 := k.n; have z7 := k.e1; have z8 := k.e
  have p30 := S.ok.p30; have h10 := S.ok.h10
  have c0 : (codeOf p h os)[4 + 5 * i]? = some o.s := code_at (j := 0) e (by decide)
  have c1 : (codeOf p h os)[4 + 5 * i + 1]? = some o.t := code_at (j := 1) e (by decide)
  have c2 : (codeOf p h os)[4 + 5 * i + 2]? = some o.f := code_at (j := 2) e (by decide)
  have c3 : (codeOf p h os)[4 + 5 * i + 3]? = some o.n := code_at (j := 3) e (by decide)
  have c4 : (codeOf p h os)[4 + 5 * i + 4]? = some o.e := code_at (j := 4) e (by decide)
  unfold ordF
  rw [S.rd c0 le (Nat.zero_le _) (show o.s ≤ h - 1 by omega) (by omega) (fun z => by omega)]
  by_cases d0 : 4 + 5 * i = at_
  · rw [if_pos d0, if_pos (by omega), d0]
  rw [if_neg d0]
  show (match rdB xs (4 + 5 * i + 1) 0 (h - 1) with | none => _ | some t => _) = _
  rw [S.rd c1 (by omega) (Nat.zero_le _) (show o.t ≤ h - 1 by omega) (by omega) (fun z => by omega)]
  by_cases d1 : 4 + 5 * i + 1 = at_
  · rw [if_pos d1, if_pos (by omega), d1]
  rw [if_neg d1]
  show (if o.t = o.s then _ else _) = _
  rw [if_neg (fun z => z3 z.symm), S.rd c2 (by omega) (Nat.zero_le _) (show o.f ≤ p - 1 by omega) (by omega) (fun z => by omega)]
  by_cases d2 : 4 + 5 * i + 2 = at_
  · rw [if_pos d2, if_pos (by omega), d2]
  rw [if_neg d2]
  show (match rdB xs (4 + 5 * i + 3) 1 p with | none => _ | some t => _) = _
  rw [S.rd c3 (by omega) z5 z6 (by omega) (fun z => by omega)]
  by_cases d3 : 4 + 5 * i + 3 = at_
  · rw [if_pos d3, if_pos (by omega), d3]
  rw [if_neg d3]
  show (match rdB xs (4 + 5 * i + 4) 1 9 with | none => _ | some t => _) = _
  rw [S.rd c4 (by omega) z7 z8 (by omega) (fun z => by omega)]
  by_cases d4 : 4 + 5 * i + 4 = at_
  · rw [if_pos d4, if_pos (by omega), d4]
  rw [if_neg d4, if_neg (by omega)]
theorem CutAt.ords (S : CutAt xs p h os at_) : ∀ (m i : Nat), i + m = os.length → 4 + 5 * i ≤ at_ → ordsF xs p h m (4 + 5 * i) = if at_ < 4 + 5 * os.length then some at_ else none
  | 0, i, e, le => by
    rw [if_neg (by omega)]
    rfl
  | m + 1, i, e, le => by
    have ei := List.getElem?_eq_getElem (l := os) (i := i) (by omega)
    unfold ordsF
    rw [S.ord ei le]
    by_cases c : at_ < 4 + 5 * i + 5
    · rw [if_pos c, if_pos (by omega)]
    · rw [if_neg c]
      exact CutAt.ords S m (i + 1) (by omega) (by omega)
theorem CutAt.sum (S : CutAt xs p h os at_) (le : 4 + 5 * os.length ≤ at_) : xs.take (4 + 5 * os.length) = nints (bodyC p h os) := by
  refine List.ext_getElem? fun j => ?_
  rw [List.getElem?_take]
  by_cases c : j < 4 + 5 * os.length
  · rw [if_pos c]
    have lt : j < (bodyC p h os).length := by rw [bodyC_len]; exact c
    have e : (codeOf p h os)[j]? = some ((bodyC p h os)[j]) := by
      unfold codeOf
      rw [List.getElem?_append_left lt, List.getElem?_eq_getElem lt]
    rw [S.eq j (by omega) _ e, nints_at (List.getElem?_eq_getElem lt)]
  · rw [if_neg c]
    have z : (nints (bodyC p h os)).length ≤ j := by
      unfold nints
      rw [List.length_map, bodyC_len]
      omega
    rw [List.getElem?_eq_none z]
theorem natV_nints (l : List Nat) : (nints l).map natV = l := by
  unfold nints
  rw [List.map_map]
  induction l with
  | nil => rfl
  | cons a r ih =>
    rw [List.map_cons, ih]
    rfl
/-- decoding stops there -/
theorem decF_stop (S : CutAt xs p h os at_) (lt : at_ < 5 + 5 * os.length) : decF xs = some at_ := by
  have ok := S.ok
  have p1 := ok.p1; have p30 := ok.p30; have h1 := ok.h1; have h10 := ok.h10; have ol := ok.len
  have c0 : (codeOf p h os)[0]? = some 78 := rfl
  have c1 : (codeOf p h os)[1]? = some p := rfl
  have c2 : (codeOf p h os)[2]? = some h := rfl
  have c3 : (codeOf p h os)[3]? = some os.length := rfl
  have hm : os.length ≤ (if h > 1 then 20 else 0 : Nat) := by
    by_cases c : h > 1
    · rw [if_pos c]; exact ol
    · rw [if_neg c]
      match os, ok with
      | [], _ => exact Nat.le_refl _
      | o :: r, ok =>
        have k0 := ok.ok o (List.mem_cons_self ..)
        have z1 := k0.s; have z2 := k0.t; have z3 := k0.st
        omega
  have hm2 : (if h > 1 then 20 else 0 : Nat) ≤ 255 := by split <;> omega
  unfold decF
  rw [S.rd c0 (Nat.zero_le _) (Nat.le_refl 78) (Nat.le_refl 78) (by omega) (fun z => by omega)]
  by_cases d0 : 0 = at_
  · rw [if_pos d0, d0]
  rw [if_neg d0]
  show (match rdB xs 1 1 30 with | none => _ | some t => _) = _
  rw [S.rd c1 (by omega) p1 p30 (by omega) (fun z => by omega)]
  by_cases d1 : 1 = at_
  · rw [if_pos d1, d1]
  rw [if_neg d1]
  show (match rdB xs 2 1 10 with | none => _ | some t => _) = _
  rw [S.rd c2 (by omega) h1 h10 (by omega) (fun z => by omega)]
  by_cases d2 : 2 = at_
  · rw [if_pos d2, d2]
  rw [if_neg d2]
  show (match rdB xs 3 0 (if h > 1 then 20 else 0) with | none => _ | some t => _) = _
  rw [S.rd c3 (by omega) (Nat.zero_le _) hm hm2 (fun z => by omega)]
  by_cases d3 : 3 = at_
  · rw [if_pos d3, d3]
  rw [if_neg d3]
  show (match ordsF xs p h os.length 4 with | some i => some i | none => _) = _
  rw [S.ords os.length 0 (by omega) (by omega)]
  by_cases d4 : at_ < 4 + 5 * os.length
  · rw [if_pos d4]
  rw [if_neg d4]
  have ea : at_ = 4 + 5 * os.length := by omega
  have es : sumV xs (4 + 5 * os.length) = sumC (bodyC p h os) := by
    unfold sumV
    rw [S.sum (by omega), natV_nints]
    rfl
  show (match rdB xs (4 + 5 * os.length) (sumV xs (4 + 5 * os.length)) (sumV xs (4 + 5 * os.length)) with | none => _ | some t => _) = _
  rw [es, S.rd code_end (by omega) (Nat.le_refl _) (Nat.le_refl _) (by have : sumC (bodyC p h os) < 256 := Nat.mod_lt _ (by decide); omega) (fun _ => ⟨rfl, rfl⟩), if_pos ea.symm, ea]
/-- .. behind its end -/
theorem decF_long (ok : NetOk p h os) (eq : ∀ (j v : Nat), (codeOf p h os)[j]? = some v → xs[j]? = some (V.int (v : Nat))) (lt : 5 + 5 * os.length < xs.length) : decF xs = some (5 + 5 * os.length) := by
  have S : CutAt xs p h os (5 + 5 * os.length) := ⟨ok, fun j _ v e => eq j v e, fun v e => by
    have := (List.getElem?_eq_some_iff.mp e).1
    rw [codeOf_len] at this
    omega⟩
  have p1 := ok.p1; have p30 := ok.p30; have h1 := ok.h1; have h10 := ok.h10; have ol := ok.len
  have c0 : (codeOf p h os)[0]? = some 78 := rfl
  have c1 : (codeOf p h os)[1]? = some p := rfl
  have c2 : (codeOf p h os)[2]? = some h := rfl
  have c3 : (codeOf p h os)[3]? = some os.length := rfl
  have hm : os.length ≤ (if h > 1 then 20 else 0 : Nat) := by
    by_cases c : h > 1
    · rw [if_pos c]; exact ol
    · rw [if_neg c]
      match os, ok with
      | [], _ => exact Nat.le_refl _
      | o :: r, ok =>
        have k0 := ok.ok o (List.mem_cons_self ..)
        have z1 := k0.s; have z2 := k0.t; have z3 := k0.st
        omega
  have es : sumV xs (4 + 5 * os.length) = sumC (bodyC p h os) := by
    unfold sumV
    rw [S.sum (by omega), natV_nints]
    rfl
  have e4 := S.ords os.length 0 (by omega) (by omega)
  rw [if_neg (by omega)] at e4
  have e4 : ordsF xs p h os.length 4 = none := e4
  unfold decF
  rw [rdB_ok (eq _ _ c0) (Nat.le_refl 78) (Nat.le_refl 78)]
  show (match rdB xs 1 1 30 with | none => _ | some t => _) = _
  rw [rdB_ok (eq _ _ c1) p1 p30]
  show (match rdB xs 2 1 10 with | none => _ | some t => _) = _
  rw [rdB_ok (eq _ _ c2) h1 h10]
  show (match rdB xs 3 0 (if h > 1 then 20 else 0) with | none => _ | some t => _) = _
  rw [rdB_ok (eq _ _ c3) (Nat.zero_le _) hm]
  show (match ordsF xs p h os.length 4 with | some i => some i | none => _) = _
  rw [e4]
  show (match rdB xs (4 + 5 * os.length) (sumV xs (4 + 5 * os.length)) (sumV xs (4 + 5 * os.length)) with | none => _ | some t => _) = _
  rw [es, rdB_ok (eq _ _ code_end) (Nat.le_refl _) (Nat.le_refl _)]
  exact if_pos (by omega)
end
/-! ### a def whose first row is super().__init__(e): its frame, the class's cell in the written part -/
section
open PySem.Spec PyProof.Rows
/-- the names of such a def: parameters local, one free name -/
structure SupSc (N ps : List Str) (sc : Scope) : Prop where
  kind : sc.kind = .function
  co : sc.isCoroutine = false
  gen : sc.isGenerator = false
  nd : N.Nodup
  pre : N = ps
  par : ∀ x ∈ ps, sc.names.lookup x = some .local
  nocell : ∀ y ∈ sc.names, y.2 ≠ .cell
  free : ∀ y, sc.names.lookup y = some .free → y = "__class__"
  noN : ∀ x ∈ N, x ≠ "__class__"
def supScB (N ps : List Str) (sc : Scope) : Bool :=
  decide (sc.kind = .function) && !sc.isCoroutine && !sc.isGenerator && decide N.Nodup && decide (N = ps) && (ps.all fun x => decide (sc.names.lookup x = some .local)) && (sc.names.all fun y => !decide (y.2 = .cell) && (!decide (y.2 = .free) || decide (y.1 = "__class__"))) && N.all fun x => !decide (x = "__class__")
theorem supSc_by {N ps : List Str} {sc : Scope} (h : supScB N ps sc = true) : SupSc N ps sc := by
  unfold supScB at h
  simp only [Bool.and_eq_true, Bool.or_eq_true, Bool.not_eq_true', decide_eq_true_eq, decide_eq_false_iff_not, List.all_eq_true] at h
  obtain ⟨⟨⟨⟨⟨⟨⟨h1, h2⟩, h3⟩, h4⟩, h5⟩, h6⟩, h7⟩, h8⟩ := h
  refine ⟨h1, h2, h3, h4, h5, h6, fun y hy => (h7 y hy).1, fun y e => ?_, h8⟩
  rcases (h7 (y, .free) (PySem.mem_of_lookup e)).2 with z | z
  · exact absurd rfl z
  · exact z
abbrev supEnv (qual : Str) (scope : Scope) (L f cda cc : Addr) : Env := PySem.W.ksEnv qual scope L f (.ref cda) cc
def supCx (P : Program) (w : World) (K : PySem.W.Frag) (mg : Str → Option Value) (base : Heap) (N : List Str) (qual : Str) (scope : Scope) (f cda cc : Addr) (A : Around) (outer : List Env) (s : Shared) (H : Hp) : Cx where
  prog := P
  w := w
  K := K
  mg := mg
  base := base
  A := A.deeper (supEnv qual scope s.heap.objs.size f cda cc)
  N := N
  s_0 := s
  H_0 := H
  env := supEnv qual scope s.heap.objs.size f cda cc
  outer := outer
  stack := supEnv qual scope s.heap.objs.size f cda cc :: outer
  ex := []
  fn := fun _ => false
  calm := true
  pn := []
  xe := fun _ _ => False
/-- what the written part has of the cell -/
def CellK (K : PySem.W.Frag) (cc D : Addr) : Prop := ∃ cl cld csl, K.lookup cc = some ⟨cl, cld, .cell (some (.ref D)), csl⟩
theorem lookup_nd {α β : Type} [BEq α] [LawfulBEq α] : ∀ {l : List (α × β)} {x : α} {u : β}, (l.map (·.1)).Nodup → (x, u) ∈ l → l.lookup x = some u
  | (y, v) :: l, x, u, nd, h => by
    rw [List.map_cons, List.nodup_cons] at nd
    rcases List.mem_cons.mp h with e | hm
    · cases e
      rw [List.lookup_cons, beq_self_eq_true]
    · have ne : x ≠ y := fun e => nd.1 (by rw [← e]; exact List.mem_map_of_mem (f := (·.1)) hm)
      rw [List.lookup_cons, beq_eq_false_iff_ne.mpr ne]
      exact lookup_nd nd.2 hm
theorem zip_lookup {ps : List Str} {us : List Value} {i : Nat} {x : Str} {u : Value} (hl : us.length = ps.length) (nd : ps.Nodup) (h1 : ps[i]? = some x) (h2 : us[i]? = some u) : (ps.zip us).reverse.lookup x = some u := by
  refine lookup_nd ?_ (List.mem_reverse.mpr (List.mem_of_getElem? (i := i) ?_))
  · rw [List.map_reverse, List.map_fst_zip (Nat.le_of_eq hl.symm)]
    show List.Pairwise _ _
    rw [List.pairwise_reverse]
    exact List.Pairwise.imp (fun h => Ne.symm h) nd
  · rw [List.getElem?_zip_eq_some]
    exact ⟨h1, h2⟩
theorem sup_start {P : Program} {w : World} {K : PySem.W.Frag} {mg : Str → Option Value} {base : Heap} {N ps : List Str} {qual : Str} {scope : Scope} {f cda cc D : Addr} {A : Around} {outer : List Env} {s : Shared} {H : Hp} {us : List Value} {vs : List V} {h₁ : Heap} {tk : Nat}
    (S : SupSc N ps scope) (hd : A.handled = none) (e0 : Env0 P w K mg base A outer s H) (hl : vs.length = ps.length) (r : Vals vs us) (hc : CellK K cc D) (hb : ∃ o, base.get? cc = some o)
    (hns : h₁.Ns s.heap.objs.size fun x => (ps.zip us).reverse.lookup x) (kp : ∀ b o, s.heap.get? b = some o → h₁.get? b = some o) :
    Inv (supCx P w K mg base N qual scope f cda cc A outer s H) [] (L2.start N vs) H { s with heap := h₁, toks := tk } := by
  obtain ⟨cl, cld, csl, lk⟩ := hc
  obtain ⟨oc, hoc⟩ := hb
  have K1 : K.In s.heap := e0.mod.kin.keeps fun b o e => (e0.bs b o e).1
  have none_ : ∀ {b : Addr}, b ∈ ([] : List Addr) → False := fun z => nomatch z
  have isc : h₁.IsCell cc (some (.ref D)) := ⟨_, kp _ _ (K1 _ _ lk), rfl⟩
  have one : ∀ {y : Str} {c : Addr}, ([("__class__", cc)] : List (Str × Addr)).lookup y = some c → y = "__class__" ∧ c = cc := fun {y c} e => by
    have := PySem.mem_of_lookup e
    cases List.mem_singleton.mp this
    exact ⟨rfl, rfl⟩
  refine ⟨⟨e0.mod, S.kind, rfl, rfl, Nat.le_refl _, fun y z c e1 e2 => (one e1).1.trans (one e2).1.symm, fun y hy => ?_, fun y c z _ => (nomatch (show false = true from z)), fun _ => hd, Around.frames_deeper e0.frames, .inr ⟨rfl, rfl⟩, fun b z => (none_ z).elim, e0.bs, e0.bsz, fun b _ _ z => none_ z, fun b z => (none_ z).elim, e0.funs, e0.frf⟩,
    rfl, e0.bare, Un.kept kp, ⟨_, hns, fun i y v e1 e2 e3 => ?_⟩, fun y c e => ?_, e0.hok.fresh (Nat.le_refl _), fun y c e => ?_, fun q hq => (nomatch (show q ∈ ([] : List (Addr × Obj)) ++ [] from hq)), e0.hok.kept kp, ?_⟩
  · have hy : scope.names.lookup y = some .cell ∨ scope.names.lookup y = some .free := hy
    rcases hy with hy | hy
    · exact absurd rfl (S.nocell _ (PySem.mem_of_lookup hy))
    · rw [S.free y hy]
      exact ⟨cc, rfl⟩
  · have e2 : (vs.map some ++ List.replicate (N.length - vs.length) none)[i]? = some (some v) := e2
    have hN : N.length - vs.length = 0 := by rw [S.pre, hl]; exact Nat.sub_self _
    rw [hN, List.replicate_zero, List.append_nil, List.getElem?_map] at e2
    obtain ⟨a, ha, ea⟩ := Option.map_eq_some_iff.mp e2
    cases ea
    obtain ⟨u, hu, rv⟩ := r.get ha
    have e1 : N[i]? = some y := e1
    have hp : ps[i]? = some y := by rw [← S.pre]; exact e1
    exact ⟨u, rv, .inl ⟨S.par y (List.mem_of_getElem? hp), zip_lookup (by rw [← r.length, hl]) (by rw [← S.pre]; exact S.nd) hp hu⟩⟩
  · obtain ⟨rfl, rfl⟩ := one e
    exact ⟨_, isc⟩
  · obtain ⟨rfl, rfl⟩ := one e
    exact (e0.bs _ _ hoc).2
  · show (vs.map some ++ List.replicate (N.length - vs.length) none).length = N.length
    rw [List.length_append, List.length_map, List.length_replicate, S.pre, hl, Nat.sub_self, Nat.add_zero]
end
/-! ### the row super().__init__(e) of an own error -/
section
open PySem.Spec PyProof.Rows
variable {X : Cx} {pins : List (Addr × Obj)} {σ : L2.St} {H : Hp} {s : Shared}
/-- the wrapper that super() gives, called -/
theorem call_mw {us : List Value} {Q : Value → Shared → Prop} {E : Value → Shared → Prop} {a C u : Addr} (T : OexC X.K C) (I : Inv X pins σ H s) (hu : s.heap.get? u = some (PySem.W.kxs_mw "ValueError.__init__" a)) (e : H a = some (exo a C none)) (hl : us.length ≤ sizeLine) (h : ∀ s', Inv X pins σ H s' → Q .none s') :
    wpAny (model X.prog X.w) X.A (call (.ref u) us) Q E s := by
  obtain ⟨nm, q, N, bs, bm, sn, sub, ab, col, dd, k0, k1, k2, k3, k5, hC, hbm⟩ := T.cls
  obtain ⟨t1, ho⟩ := exo_at I.hok e
  have hC' := I.kIn _ _ hC
  have fin : ∀ h', (∀ b o, b ≠ a → s.heap.get? b = some o → h'.get? b = some o) → h'.get? a = some (PySem.W.excObj C s.heap.objs.size none .none) → h'.get? s.heap.objs.size = some (PySem.W.excTup us) → Q .none { s with heap := h' } := fun h' k hx _ => by
    have J := I.write (t' := s.toks) (x := a) (e := a) (o := exo a C none) (by rw [e]; exact True.intro) (.inl rfl) k ⟨_, hx⟩ (exo_ok hx)
    have eu : L2.upd H a (exo a C none) = H := by
      funext b
      by_cases hb : b = a
      · rw [hb, upd_same, e]
      · rw [upd_ne hb]
    rw [eu] at J
    exact h _ J
  obtain ⟨hh, g, d, tk, os⟩ := s
  refine wpAny_call (codeAny_of_tree ?_)
  show wpAny _ X.A.in1 (callAny (.ref u) ⟨us, []⟩) _ _ _
  simp only [callAny]
  refine wpAny_bind (wpAny_load hu ?_)
  simp only [PySem.W.kxs_mw, show (Value.type "method-wrapper" == Value.type "method" || Value.type "method-wrapper" == Value.type "builtin_function_or_method" || Value.type "method-wrapper" == Value.type "method-wrapper") = true by decide, if_true]
  refine PySem.W.KFB.if_so (by decide) ?_
  refine wpAny_bind (PySem.W.check_bound_init F.excBase_ValueError.toExcCallFacts hC' ho rfl ?_)
  refine wpAny_bind (wpAny_pure (wpAny_pure ?_))
  refine ⟨plainId_quiet F.excBase_ValueError.init.plain _, codeAny_builtin F.excBase_ValueError.initEntry ?_⟩
  exact PySem.W.exc_init_tree (cls := .ref C) (t0 := t1) (dv := none) (c2 := .none) (c3 := .none) (b4 := .bool false) ho hl fin
/-- what the written part says of the def whose row it is -/
structure SupI (P : Program) (K : PySem.W.Frag) (mg : Str → Option Value) (sc : Scope) (f cda cc D : Addr) (fd : FuncData) : Prop where
  fn : ∃ oc od osl, K.lookup f = some ⟨oc, od, .func fd, osl⟩
  self : ∃ ar, (fd.params.posonlyargs ++ fd.params.args).head? = some ar ∧ ar.arg = ("self" : Str)
  code : ∃ ccl cdd vs ccs file tf, K.lookup cda = some ⟨ccl, cdd, .fields vs, ccs⟩ ∧ vs[2]? = some (.str file tf) ∧ ((P.main.file : Str) == file) = true
  cell : CellK K cc D
  cls : ∃ cd, PySem.W.clsIn K D = some cd
  sup : mg "super" = none
  top : (P.main.scope.names.lookup ("super" : Str)).isSome = false
  any : PySem.W.nsIn K cStatics "thirdparty.any" = some none
  names : sc.names.lookup ("super" : Str) = some .globalImplicit ∧ sc.names.lookup ("__class__" : Str) = some .free ∧ sc.names.lookup ("self" : Str) = some .local ∧ sc.kind = .function
/-- what it says of the class of the error -/
structure SupC (K : PySem.W.Frag) (C D : Addr) : Prop where
  sub : PySem.W.mroIn K C (.ref D) = some true
  ini : PySem.W.ks_superIn K C D "__init__" = some (some (.builtin "ValueError.__init__"))
  ve : PySem.W.subIn K (.ref C) (.type "ValueError") = some true
theorem sup_row {i : Nat} {a C f cda cc D : Addr} {fd : FuncData} {e : Expr} {ta : TA} {body : List Stmt} {p0 p1 p2 p3 p4 : Pos} {pl : Sem Bool} {R : Hp → Prop} (SI : SupI X.prog X.K X.mg X.env.scope f cda cc D fd) (hf : X.env.func = some f) (hco : X.env.code = .ref cda) (hcl : X.env.cells.lookup ("__class__" : Str) = some cc) (hN : X.N[i]? = some "self")
    (ha : PA X [e] ta) (hi : interactive X.env = false)
    (hev : eval (.Call (.Attribute (.Call (.Name "super" p0) [] [] p1) "__init__" p2) [e] [] p3) X.env = (do
      let ov ← attributeBase (.Call (.Name "super" p0) [] [] p1) "__init__" X.env (eval (.Call (.Name "super" p0) [] [] p1) X.env)
      standAt p2.atName
      let (f, first) ← holding [ov] (getMethod ov "__init__" pl)
      callWith p3 f first (backTo p3 (starEach [e] X.env)) []))
    (he : starEach [e] X.env = (false, eval e X.env) :: starEach [] X.env) (hpl : (backTo p3 (starEach [] X.env)).any (·.1) = false)
    (hs : swapsWith (.Call (.Attribute (.Call (.Name "super" p0) [] [] p1) "__init__" p2) [e] [] p3) none p4.line X.env = pure false)
    (I : Inv X pins σ H s) (hσ : σ[i]? = some (some (.ref a))) (hea : H a = some (exo a C none)) (T : OexC X.K C) (SC : SupC X.K C D)
    (h : ta σ H fun ws H1 => ws.length ≤ 1000 ∧ H1 a = some (exo a C none) ∧ R H1) :
    _root_.PySem.wpAt (model X.prog X.w) X.A (.func body X.env) (exec (.Expr (.Call (.Attribute (.Call (.Name "super" p0) [] [] p1) "__init__" p2) [e] [] p3) p4) X.env) (fun fl s' => fl = .next ∧ ∃ H1, Inv X pins σ H1 s' ∧ R H1) X.xe s := by
  obtain ⟨oc, od, osl, lk⟩ := SI.fn
  obtain ⟨ar, har, earg⟩ := SI.self
  obtain ⟨ccl, cdd, vs, ccs, file, tf, lkc, hvs, hfile⟩ := SI.code
  obtain ⟨cl, cld, csl, lkl⟩ := SI.cell
  obtain ⟨cdD, hD⟩ := SI.cls
  obtain ⟨n1, n2, n3, n4⟩ := SI.names
  have K1 : X.K.In s.heap := I.kIn
  obtain ⟨oD, hD1, hD2⟩ : ∃ oD, s.heap.get? D = some oD ∧ oD.data = .cls cdD := by
    unfold PySem.W.clsIn at hD
    split at hD
    · rename_i c d cd' sl ho
      cases hD
      exact ⟨_, K1 _ _ ho, rfl⟩
    · cases hD
  obtain ⟨t1, hx⟩ := exo_at I.hok hea
  obtain ⟨m, hn, hl⟩ := I.loc
  obtain ⟨u, r, l⟩ := hl i "self" (.ref a) hN hσ (.inl n3)
  obtain rfl : u = Value.ref a := r
  have hm : m "self" = some (.ref a) := by
    rcases l with ⟨_, z⟩ | ⟨k, _⟩
    · exact z
    · have k : X.env.scope.names.lookup ("self" : Str) = some .cell ∨ X.env.scope.names.lookup ("self" : Str) = some .free := k
      rw [n3] at k
      rcases k with k | k <;> cases k
  obtain ⟨mb, b1, b2⟩ := I.mod.blt
  cases hc : PySem.W.clsIn X.K C with
  | none =>
    have z := SC.ini
    unfold PySem.W.ks_superIn at z
    rw [hc] at z
    cases z
  | some cd =>
    have hini := SC.ini
    unfold PySem.W.ks_superIn at hini
    rw [hc] at hini
    obtain ⟨hh, g, d, tk, os⟩ := s
    refine PySem.ks_wpAt_Expr_any ?_ hi hs
    refine PySem.ks_wpAt_MethodCall (pl := pl) ?_ hev
    refine PySem.ks_wpAt_super_base n1 n2 (by decide) hf (K1 _ _ lk) rfl har hco (K1 _ _ lkc) rfl hvs hfile SI.top ?_
    refine PySem.W.ks_loadName_global I.ok.kind n1 (PySem.Calls.loadGlobal_builtin (by rw [I.ok.glob]; exact I.mod.glob.keeps I.bk) SI.sup (by rw [I.ok.blt]; exact b1.keeps I.bk) ((b2 "super" (by decide)).trans (show bootBuiltins "super" = some (.type "super") from by decide +kernel)) ⟨rfl, ?_⟩)
    refine wpAny_loadName_free I.ok.kind n2 hcl ⟨_, K1 _ _ lkl, rfl⟩ ?_
    rw [earg]
    refine wpAny_loadName_local I.ok.kind n3 hn hm ?_
    refine PySem.ks_wpAny_isType_cls hD1 hD2 ⟨rfl, ?_⟩
    refine PySem.ks_wpAny_call_super hD1 hD2 hx rfl (fun c z => by cases z) (PySem.W.looks_mroIn K1 SC.sub) (fun h' e' k => ?_)
    have I1 : Inv X pins σ H ⟨h', g, d, tk, os⟩ := I.kept k
    have K2 : X.K.In h' := I1.kIn
    have hx1 := k _ _ hx
    have ins : PySem.W.InstAt h' a _ C none := ⟨hx1, rfl, rfl, trivial⟩
    refine PySem.W.kxs_getMethod PySem.W.kxs_ValueError (l₀ := cd.mro) e' (PySem.W.looks_opaque K2 SI.any) (fun A Q E s k q => wpAny_bind ((PySem.W.looks_clsIn K2 hc) A _ E s k (wpAny_pure q))) rfl K2 hini (ins.type.andThen (PySem.W.looks_subIn K2 SC.ve)) (PySem.W.ks_ne K2 ins hc) (by decide) ?_
    have nu : H h'.objs.size = none := I1.hok.fresh (Nat.le_refl _)
    have fo : FpOk X pins H h'.objs.size := I1.fpOk (Nat.le_refl _) nu
    have kp : ∀ b o, h'.get? b = some o → (h'.push (PySem.W.kxs_mw "ValueError.__init__" a)).get? b = some o := fun b o z => Heap.get?_push_of_some _ z
    have hmw : (h'.push (PySem.W.kxs_mw "ValueError.__init__" a)).get? h'.objs.size = some (PySem.W.kxs_mw "ValueError.__init__" a) := Heap.get?_push_size _ rfl
    have I2 : Inv X pins σ H ⟨h'.push (PySem.W.kxs_mw "ValueError.__init__" a), g, d, tk + 1, os⟩ := I1.kept kp
    have I3 : Inv X (pins ++ [(h'.objs.size, PySem.W.kxs_mw "ValueError.__init__" a)]) σ H ⟨h'.push (PySem.W.kxs_mw "ValueError.__init__" a), g, d, tk + 1, os⟩ := I2.pins_of fun p hp => (List.mem_append.mp hp).elim (fun z => I2.pin p (List.mem_append_right _ z)) fun z => by
      rw [List.mem_singleton.mp z]
      exact ⟨hmw, fo.1, fo.2.1, fo.2.2.1, fun v y => by cases y⟩
    show wpAny _ _ (callWith p3 (.ref h'.objs.size) [] (backTo p3 (starEach [e] X.env)) []) _ _ _
    refine PySem.W.kxs_callWith (i := "ValueError.__init__") (x := a) (by rw [he]; show (false || (backTo p3 (starEach [] X.env)).any (·.1)) = false; rw [hpl]; rfl) ?_
    have run := ha.run p3 _ _ σ H _ I3 h
    rw [he] at run ⊢
    refine PySem.Calls.evalArgs_plain (thn run fun us s3 hq => ?_)
    obtain ⟨ws, H1, I4, r1, hz, ea, q⟩ := hq
    have hu := (I4.pin (h'.objs.size, PySem.W.kxs_mw "ValueError.__init__" a) (by simp)).1
    refine ⟨hu, ?_⟩
    have hlen : us.length ≤ sizeLine := by
      rw [← Paired.length r1, sizeLine_eq]
      omega
    exact call_mw T I4.unpinned hu ea hlen fun s' J => ⟨rfl, H1, J, q⟩
end
/-! ### the promise of such a def -/
section
open PySem.Spec PyProof.Rows
variable {P : Program} {w : World} {K : PySem.W.Frag} {mg : Str → Option Value} {base : Heap}
theorem fn_sup {k : Nat} {f cda cc D : Addr} {qual : Str} {params : Arguments} {scope : Scope} {kV doc pm ct oc : Value} {an od : Option Addr} {osl : Array (Option Value)} {N ps : List Str} {sp : Sp} {e : Expr} {rest : List Stmt} {p0 p1 p2 p3 p4 : Pos} {pl : Sem Bool}
    (lk : K.lookup f = some ⟨oc, od, .func (PySem.W.ksFn "__init__" qual params (.Expr (.Call (.Attribute (.Call (.Name "super" p0) [] [] p1) "__init__" p2) [e] [] p3) p4 :: rest) scope .none kV doc pm an (.ref cda) ct cc), osl⟩) (hcd : PySem.W.codeIn K (.ref cda) qual = true) (S : SupSc N ps scope) (h0 : N[0]? = some ("self" : Str))
    (SI : SupI P K mg scope f cda cc D (PySem.W.ksFn "__init__" qual params (.Expr (.Call (.Attribute (.Call (.Name "super" p0) [] [] p1) "__init__" p2) [e] [] p3) p4 :: rest) scope .none kV doc pm an (.ref cda) ct cc))
    (len : ∀ vs H Q E, sp vs H Q E → vs.length = ps.length)
    (hev : ∀ L : Addr, eval (.Call (.Attribute (.Call (.Name "super" p0) [] [] p1) "__init__" p2) [e] [] p3) (supEnv qual scope L f cda cc) = (do
      let ov ← attributeBase (.Call (.Name "super" p0) [] [] p1) "__init__" (supEnv qual scope L f cda cc) (eval (.Call (.Name "super" p0) [] [] p1) (supEnv qual scope L f cda cc))
      standAt p2.atName
      let (fv, first) ← holding [ov] (getMethod ov "__init__" pl)
      callWith p3 fv first (backTo p3 (starEach [e] (supEnv qual scope L f cda cc))) []))
    (he : ∀ L : Addr, starEach [e] (supEnv qual scope L f cda cc) = (false, eval e (supEnv qual scope L f cda cc)) :: starEach [] (supEnv qual scope L f cda cc)) (hpl : ∀ L : Addr, (backTo p3 (starEach [] (supEnv qual scope L f cda cc))).any (·.1) = false)
    (hi : ∀ L : Addr, interactive (supEnv qual scope L f cda cc) = false) (hs : ∀ L : Addr, swapsWith (.Call (.Attribute (.Call (.Name "super" p0) [] [] p1) "__init__" p2) [e] [] p3) none p4.line (supEnv qual scope L f cda cc) = pure false)
    (hbody : ∀ (A : Around) (outer : List Env) (s : Shared) (H : Hp) (vs : List V) (Q : VK) (E : XK), Room k (A.deeper (supEnv qual scope s.heap.objs.size f cda cc)) → sp vs H Q E →
      ∃ (a C : Addr) (ta : TA) (t : TS), vs[0]? = some (.ref a) ∧ H a = some (exo a C none) ∧ OexC K C ∧ SupC K C D ∧ PA (supCx P w K mg base N qual scope f cda cc A outer s H) [e] ta ∧ PSs (supCx P w K mg base N qual scope f cda cc A outer s H) rest t ∧
        ta (L2.start N vs) H fun ws H1 => ws.length ≤ 1000 ∧ H1 a = some (exo a C none) ∧ t { nx := fun _ H' => Q .non H', rt := Q } (L2.start N vs) H1) :
    FnOk P w K mg base CX0 (k + 1) f (PySem.W.ksFn "__init__" qual params (.Expr (.Call (.Attribute (.Call (.Name "super" p0) [] [] p1) "__init__" p2) [e] [] p3) p4 :: rest) scope .none kV doc pm an (.ref cda) ct cc) ps sp := by
  refine ⟨len, fun A outer s H args us vs Q E hr e0 hb r hsp => ?_⟩
  have hl := len _ _ _ _ hsp
  have KX : K.In s.heap := e0.mod.kin.keeps fun b o e => (e0.bs b o e).1
  have lim : s.heap.NoLimit := e0.mod.nolimit.keeps fun b o e => (e0.bs b o e).1
  obtain ⟨cl, cld, csl, lkl⟩ := id SI.cell
  have hcc : ∃ o, base.get? cc = some o := ⟨_, e0.mod.kin _ _ lkl⟩
  refine PySem.ks_codeAny_call_defAt hr.depth (KX _ _ lk) rfl lim (PySem.W.codeRec_of KX hcd) rfl hb (fun y hy => S.nocell y hy) (fun y hy => S.par y.1 (List.of_mem_zip (a := y.1) (b := y.2) hy).1) (fun h₁ hns kp => ?_) S.co S.gen S.kind
  obtain ⟨a, C, ta, t, ea, hea, T, SC, hPA, hPS, q⟩ := hbody A outer s H vs Q E (hr.deeper _) hsp
  have I := sup_start (cda := cda) (f := f) (qual := qual) (tk := s.toks + (ps.zip us).length) S hr.hd e0 hl r SI.cell hcc hns kp
  have hσ : (L2.start N vs)[0]? = some (some (.ref a)) := by
    unfold L2.start
    have h1 : 0 < (vs.map some).length := by
      rw [List.length_map]
      exact (List.getElem?_eq_some_iff.mp ea).1
    rw [List.getElem?_append_left h1, List.getElem?_map, ea]
    rfl
  refine PySem.ks_wpAt_execs_cons (PySem.ks_wpAt_mono (sup_row (X := supCx P w K mg base N qual scope f cda cc A outer s H) (R := fun H1 => t { nx := fun _ H' => Q .non H', rt := Q } (L2.start N vs) H1) (i := 0) (e := e) (p0 := p0) (p1 := p1) (p2 := p2) (p3 := p3) (p4 := p4) (pl := pl) SI rfl rfl rfl h0 hPA (hi _) (hev _) (he _) (hpl _) (hs _) I hσ hea T SC q) (fun fl s' hq => ?_) fun _ _ z => z.elim)
  · obtain ⟨rfl, H1, J, ht⟩ := hq
    refine PySem.wpAt_of_wpAny (wpAny_mono (hPS.run [] s' (L2.start N vs) H1 _ J ht) (fun fl2 s2 hs2 => ?_) fun _ _ z => z.elim)
    have fin : ∀ {σ' : L2.St} {H' : Hp} {v : V} {u : Value}, Inv (supCx P w K mg base N qual scope f cda cc A outer s H) [] σ' H' s2 → L2.RelV v u → Q v H' → CE outer P w H s Q u s2 :=
      fun {σ' H' v u} J rv q => ⟨v, H', J.os, J.bare, J.base, J.hok, rv, q⟩
    cases fl2 with
    | ret u =>
      obtain ⟨v, σ', H', J, rv, q⟩ := hs2
      exact fin J rv q
    | next =>
      obtain ⟨σ', H', J, q⟩ := hs2
      exact fin (v := V.non) (u := Value.none) J rfl q
    | brk =>
      obtain ⟨_, _, _, q⟩ := hs2
      exact False.elim q
    | cont =>
      obtain ⟨_, _, _, q⟩ := hs2
      exact False.elim q
end
/-! ### the class of an own error with an own __init__, by what the written part says -/
section
open PySem.Spec PyProof.Rows
def oexB (K : PySem.W.Frag) (C : Addr) : Bool := match K.lookup C with
  | some ⟨.type "type", _, .cls cd, sl⟩ => (match cd.mro, sl.toList with
    | .ref C' :: bm, [_, _, _, _, some (.builtin n), _] => C' == C && n == "ValueError.__new__" && !cd.hasDel && cd.hasDict && PySem.HandSPX.refsVE bm
    | _, _ => false)
  | _ => false
variable {K : PySem.W.Frag} {C : Addr}
theorem oex_cls (q : oexB K C = true) : ∃ cd, PySem.W.clsIn K C = some cd := by
  unfold oexB at q
  unfold PySem.W.clsIn
  split at q
  · rename_i dd cd sl ho
    exact ⟨cd, by rw [ho]⟩
  · cases q
theorem oex_mk (q : oexB K C = true) (sa : PySem.W.findIn K (.ref C) "__setattr__" = some (some (.builtin "object.__setattr__"))) (exC : PySem.W.subIn K (.ref C) (.type "BaseException") = some true) (tyC : PySem.W.typeIn K (.ref C) = some (.type "type")) (kC : PySem.W.keepIn K (.ref C) = true) : OexC K C := by
  refine ⟨?_, sa, exC, tyC, kC⟩
  unfold oexB at q
  split at q
  · rename_i dd cd sl ho
    split at q
    · rename_i C' bm k0 k1 k2 k3 n k5 hm hs
      simp only [Bool.and_eq_true, beq_iff_eq, Bool.not_eq_true'] at q
      obtain ⟨⟨⟨⟨rfl, rfl⟩, hdel⟩, hdi⟩, ht⟩ := q
      obtain ⟨nm, bs, mro, ns, qn, hd, sn, sub, ab, col, del⟩ := cd
      dsimp only at hm hdel hdi
      subst hm hdel hdi
      have hsl : sl = #[k0, k1, k2, k3, some (.builtin "ValueError.__new__"), k5] := by
        obtain ⟨l⟩ := sl
        simp only at hs
        rw [hs]
      subst hsl
      exact ⟨nm, qn, ns, bs, bm, sn, sub, ab, col, dd, k0, k1, k2, k3, k5, ho, ht⟩
    · cases q
  · cases q
end
abbrev s_InvalidNet_init : Stmt := inClass (top 3) 0
abbrev N_InvalidNet_init : List Str := ["self", "part", "index"]
abbrev P_InvalidNet_init : List Str := ["self", "part", "index"]
theorem sc_InvalidNet_init : SupSc N_InvalidNet_init P_InvalidNet_init (defScope s_InvalidNet_init) := supSc_by (by decide +kernel)
/-! ### the error of a net: what its __init__ makes -/
section
open PySem.Spec PyProof.Rows
structure FunS (K : PySem.W.Frag) (qual : Str) (st : Stmt) (f cda cc : Addr) (fd : FuncData) : Prop where
  ex : ∃ oc od osl kV doc pm an ct, fd = PySem.W.ksFn "__init__" qual (defArgs st) (defBody st) (defScope st) .none kV doc pm an (.ref cda) ct cc ∧ K.lookup f = some ⟨oc, od, .func fd, osl⟩ ∧ PySem.W.codeIn K (.ref cda) qual = true
variable {P : Program} {w : World} {K : PySem.W.Frag} {mg : Str → Option Value} {base : Heap}
def spNetErr (K : PySem.W.Frag) (D : Addr) : Sp := fun vs H Q _ => ∃ (a C : Addr) (part : Str) (i : Nat), vs = [.ref a, .str part, .int i] ∧ H a = some (exo a C none) ∧ OexC K C ∧ SupC K C D ∧ part.length ≤ 100 ∧ i ≤ 30 ∧ PySem.W.findIn K (.ref C) "part" = some none ∧ PySem.W.findIn K (.ref C) "index" = some none ∧
  ∀ dx, H dx = none → dx ≠ a → Q .non (L2.upd (L2.upd (L2.upd H dx (exd dx [("part", .str part)])) a (exo a C (some dx))) dx (exd dx [("index", .int i), ("part", .str part)]))
theorem ok_neterr {f cda cc D : Addr} {fd : FuncData} (F : FunS K "InvalidNet.__init__" s_InvalidNet_init f cda cc fd) (SI : SupI P K mg (defScope s_InvalidNet_init) f cda cc D fd) : FnOk P w K mg base CX0 2 f fd P_InvalidNet_init (spNetErr K D) := by
  obtain ⟨oc, od, osl, kV, doc, pm, an, ct, rfl, lk, hcd⟩ := F.ex
  refine fn_sup (N := N_InvalidNet_init) (ps := P_InvalidNet_init) lk hcd sc_InvalidNet_init rfl SI (fun vs H Q E h => ?_) (fun L => by rfl) (fun L => by rfl) (fun L => by rfl) (fun L => by rfl) (fun L => by rfl) (fun A outer s H vs Q E hr h => ?_)
  · obtain ⟨a, C, part, i, rfl, _⟩ := h
    rfl
  · obtain ⟨a, C, part, i, rfl, ha, T, SC, pl, il, f1, f2, q⟩ := h
    refine ⟨a, C, _, _, rfl, ha, T, SC, pa_cons (pe_joined (.cons pe_str (.cons (pe_fmt (pv 1)) (.cons pe_str (.cons (pe_fmt (pv 2)) .nil))))) pa_nil, pss_cons (ps_ost (pv 0) (pv 1)) (pss_one (ps_ost (pv 0) (pv 2))), ?_⟩
    have hi := (nT_ok il).2.2.1
    have z0 : (Str.empty ++ ("invalid " : Str)).length = 8 := by decide +kernel
    have z1 : (" of a net, index " : Str).length = 17 := by decide +kernel
    refine ⟨_, rfl, by rw [z0, sizeLine_eq]; omega, ?_⟩
    refine ⟨_, rfl, .inl ⟨part, rfl, by rw [sizeLine_eq]; omega, part, rfl, by rw [len_app, z0, sizeLine_eq]; omega, ?_⟩⟩
    refine ⟨_, rfl, by rw [len_app, len_app, z0, z1, sizeLine_eq]; omega, ?_⟩
    refine ⟨_, rfl, .inr ⟨_, rfl, log_small il, nT i, rfl, by rw [len_app, len_app, len_app, z0, z1, sizeLine_eq]; omega, ?_⟩⟩
    refine ⟨by show 1 ≤ 1000; decide, ha, ?_⟩
    refine ⟨_, rfl, _, rfl, a, C, rfl, T, f1, .inl ⟨ha, fun dx nd ne => ?_⟩⟩
    refine ⟨_, rfl, _, rfl, a, C, rfl, T, f2, .inr ⟨dx, _, upd_same, (upd_ne ne).trans upd_same, by show 1 ≤ 900; decide, q dx nd ne⟩⟩
end
abbrev s_TextFault_init : Stmt := inClass (top 13) 0
abbrev N_TextFault_init : List Str := ["self", "line"]
abbrev P_TextFault_init : List Str := ["self", "line"]
theorem sc_TextFault_init : SupSc N_TextFault_init P_TextFault_init (defScope s_TextFault_init) := supSc_by (by decide +kernel)
abbrev s_InvalidCode_init : Stmt := inClass (top 14) 0
abbrev N_InvalidCode_init : List Str := ["self", "place"]
abbrev P_InvalidCode_init : List Str := ["self", "place"]
theorem sc_InvalidCode_init : SupSc N_InvalidCode_init P_InvalidCode_init (defScope s_InvalidCode_init) := supSc_by (by decide +kernel)
/-! ### the errors with one number: what their __init__ makes -/
section
open PySem.Spec PyProof.Rows
theorem num_len : ∀ n, n < 1000 → (nT n).length ≤ 4 := by
  have h : ((List.range 1000).all fun n => decide ((nT n).length ≤ 4)) = true := by decide +kernel
  intro n hn
  rw [List.all_eq_true] at h
  exact of_decide_eq_true (h n (List.mem_range.mpr hn))
theorem log_1000 {n : Nat} (h : n < 1000) : ((n : Int)).natAbs.log2 < 1920 := by
  have : ((n : Int)).natAbs = n := Int.natAbs_natCast n
  rw [this]
  by_cases c : n = 0
  · subst c; decide
  · have h1 : n.log2 < 10 := (Nat.log2_lt c).mpr (Nat.lt_of_lt_of_le h (by decide))
    omega
variable {P : Program} {w : World} {K : PySem.W.Frag} {mg : Str → Option Value} {base : Heap}
def spOneErr (K : PySem.W.Frag) (D : Addr) (fld : Str) : Sp := fun vs H Q _ => ∃ (a C : Addr) (i : Nat), vs = [.ref a, .int i] ∧ H a = some (exo a C none) ∧ OexC K C ∧ SupC K C D ∧ i < 1000 ∧ PySem.W.findIn K (.ref C) fld = some none ∧
  ∀ dx, H dx = none → dx ≠ a → Q .non (L2.upd (L2.upd H dx (exd dx [(fld, .int i)])) a (exo a C (some dx)))
theorem ok_linerr {f cda cc D : Addr} {fd : FuncData} (F : FunS K "TextFault.__init__" s_TextFault_init f cda cc fd) (SI : SupI P K mg (defScope s_TextFault_init) f cda cc D fd) : FnOk P w K mg base CX0 2 f fd P_TextFault_init (spOneErr K D "line") := by
  obtain ⟨oc, od, osl, kV, doc, pm, an, ct, rfl, lk, hcd⟩ := F.ex
  refine fn_sup (N := N_TextFault_init) (ps := P_TextFault_init) lk hcd sc_TextFault_init rfl SI (fun vs H Q E h => ?_) (fun L => by rfl) (fun L => by rfl) (fun L => by rfl) (fun L => by rfl) (fun L => by rfl) (fun A outer s H vs Q E hr h => ?_)
  · obtain ⟨a, C, i, rfl, _⟩ := h
    rfl
  · obtain ⟨a, C, i, rfl, ha, T, SC, il, f1, q⟩ := h
    refine ⟨a, C, _, _, rfl, ha, T, SC, pa_cons (pe_joined (.cons pe_str (.cons (pe_fmt (pv 1)) .nil))) pa_nil, pss_one (ps_ost (pv 0) (pv 1)), ?_⟩
    have hi := num_len i il
    have z0 : (Str.empty ++ ("invalid text at line " : Str)).length = 21 := by decide +kernel
    refine ⟨_, rfl, by rw [z0, sizeLine_eq]; omega, ?_⟩
    refine ⟨_, rfl, .inr ⟨_, rfl, log_1000 il, nT i, rfl, by rw [len_app, z0, sizeLine_eq]; omega, ?_⟩⟩
    exact ⟨by show 1 ≤ 1000; decide, ha, _, rfl, _, rfl, a, C, rfl, T, f1, .inl ⟨ha, fun dx nd ne => q dx nd ne⟩⟩
theorem ok_codeerr {f cda cc D : Addr} {fd : FuncData} (F : FunS K "InvalidCode.__init__" s_InvalidCode_init f cda cc fd) (SI : SupI P K mg (defScope s_InvalidCode_init) f cda cc D fd) : FnOk P w K mg base CX0 2 f fd P_InvalidCode_init (spOneErr K D "place") := by
  obtain ⟨oc, od, osl, kV, doc, pm, an, ct, rfl, lk, hcd⟩ := F.ex
  refine fn_sup (N := N_InvalidCode_init) (ps := P_InvalidCode_init) lk hcd sc_InvalidCode_init rfl SI (fun vs H Q E h => ?_) (fun L => by rfl) (fun L => by rfl) (fun L => by rfl) (fun L => by rfl) (fun L => by rfl) (fun A outer s H vs Q E hr h => ?_)
  · obtain ⟨a, C, i, rfl, _⟩ := h
    rfl
  · obtain ⟨a, C, i, rfl, ha, T, SC, il, f1, q⟩ := h
    refine ⟨a, C, _, _, rfl, ha, T, SC, pa_cons (pe_joined (.cons pe_str (.cons (pe_fmt (pv 1)) .nil))) pa_nil, pss_one (ps_ost (pv 0) (pv 1)), ?_⟩
    have hi := num_len i il
    have z0 : (Str.empty ++ ("invalid code at place " : Str)).length = 22 := by decide +kernel
    refine ⟨_, rfl, by rw [z0, sizeLine_eq]; omega, ?_⟩
    refine ⟨_, rfl, .inr ⟨_, rfl, log_1000 il, nT i, rfl, by rw [len_app, z0, sizeLine_eq]; omega, ?_⟩⟩
    exact ⟨by show 1 ≤ 1000; decide, ha, _, rfl, _, rfl, a, C, rfl, T, f1, .inl ⟨ha, fun dx nd ne => q dx nd ne⟩⟩
end
/-! ### raise InvalidNet(part, index) -/
section
open PySem.Spec PyProof.Rows
structure NetErr (P : Program) (w : World) (K : PySem.W.Frag) (mg : Str → Option Value) (base : Heap) (C : Addr) : Prop where
  g : mg "InvalidNet" = some (.ref C)
  T : OexC K C
  SC : SupC K C C
  f1 : PySem.W.findIn K (.ref C) "part" = some none
  f2 : PySem.W.findIn K (.ref C) "index" = some none
  ini : ∃ (f : Addr) (fd : FuncData), PySem.W.findIn K (.ref C) "__init__" = some (some (.ref f)) ∧ PySem.W.typeIn K (.ref f) = some (.type "function") ∧ FnOk P w K mg base CX0 2 f fd P_InvalidNet_init (spNetErr K C) ∧ Binds K fd P_InvalidNet_init []
theorem same_ext {H H2 : Hp} {d : Addr} (nd : H d = none) (oth : ∀ b, b ≠ d → H2 b = H b) : Same H H2 := fun b o e => by rw [oth b (ne_of_none e nd)]; exact e
/-- the fields that such an error has -/
def netFs (part : Str) (i : Nat) : List (Str × V) := [("index", .int i), ("part", .str part)]
theorem pa_weak {X : Cx} {es : List Expr} {ta : TA} (h : PA X es ta) : PA X es (fun σ H k => ∃ k1 : List V → Hp → Prop, ta σ H k1 ∧ ∀ vs H1, k1 vs H1 → k vs H1) := ⟨fun pos pins s σ H Q I ⟨k1, h1, h2⟩ => thn (h.run pos pins s σ H k1 I h1) fun us s1 ⟨vs, H1, I1, r, q⟩ => ⟨vs, H1, I1, r, h2 _ _ q⟩⟩
theorem pmk_neterr {X : Cx} {C : Addr} {e : Expr} {es : List Expr} {ta : TA} {p pos : Pos} (NE : NetErr X.prog X.w X.K X.mg X.base C) (hr : Room 3 X.A) (hg : Gl X "InvalidNet") (ha : PA X (e :: es) ta)
    (he : starEach (e :: es) X.env = (false, eval e X.env) :: starEach es X.env := by rfl) (hpl : (backTo pos (starEach es X.env)).any (·.1) = false := by rfl) :
    PMk X (.Call (.Name "InvalidNet" p) (e :: es) [] pos) (fun σ H Q => ta σ H fun vs H1 => ∃ (part : Str) (i : Nat), vs = [.str part, .int i] ∧ part.length ≤ 100 ∧ i ≤ 30 ∧ ∀ d H2, H1 d = none → H2 d = some (.xd (netFs part i)) → (∀ b, b ≠ d → H2 b = H1 b) → Q (.ref C) (some d) H2) := by
  obtain ⟨f, fd, iC, tI, F1, bI⟩ := NE.ini
  intro pins s σ H Q I h
  refine pmk_oex (X := X) (e := e) (es := es) (p := p) (pos := pos) (ds := []) (dvs := []) NE.T iC tI F1 hr bI .nil (fun _ _ _ _ _ _ _ z => z.elim) hg NE.g (pa_weak ha) (by decide) he hpl pins s σ H Q I ⟨_, h, fun vs H1 h1 => ?_⟩
  obtain ⟨part, i, rfl, pl, il, q⟩ := h1
  refine ⟨by show 2 ≤ 1000; decide, fun a na => ⟨a, C, part, i, rfl, upd_same, NE.T, NE.SC, pl, il, NE.f1, NE.f2, fun dx nd ne => ⟨rfl, dx, netFs part i, (upd_ne ne.symm).trans upd_same, upd_same, ?_, ?_⟩⟩⟩
  · rw [upd_ne ne] at nd
    exact nd
  · rw [upd_ne ne] at nd
    refine q dx _ nd upd_same fun b hb => ?_
    rw [upd_ne hb]
    by_cases e : b = a
    · rw [e, del_same, na]
    · rw [del_ne e, upd_ne hb, upd_ne e, upd_ne hb, upd_ne e]
end
/-! ### raise of an error with one number -/
section
open PySem.Spec PyProof.Rows
structure OneErr (P : Program) (w : World) (K : PySem.W.Frag) (mg : Str → Option Value) (base : Heap) (cn fld : Str) (ps : List Str) (C : Addr) : Prop where
  g : mg cn = some (.ref C)
  T : OexC K C
  SC : SupC K C C
  f1 : PySem.W.findIn K (.ref C) fld = some none
  ini : ∃ (f : Addr) (fd : FuncData), PySem.W.findIn K (.ref C) "__init__" = some (some (.ref f)) ∧ PySem.W.typeIn K (.ref f) = some (.type "function") ∧ FnOk P w K mg base CX0 2 f fd ps (spOneErr K C fld) ∧ Binds K fd ps []
/-- the fields that such an error has -/
def oneFs (fld : Str) (i : Nat) : List (Str × V) := [(fld, .int i)]
theorem pmk_oneerr {X : Cx} {cn fld : Str} {ps : List Str} {C : Addr} {e : Expr} {es : List Expr} {ta : TA} {p pos : Pos} (NE : OneErr X.prog X.w X.K X.mg X.base cn fld ps C) (hr : Room 3 X.A) (hg : Gl X cn) (ha : PA X (e :: es) ta)
    (hdb : (cn == ("__debug__" : Str)) = false := by decide) (he : starEach (e :: es) X.env = (false, eval e X.env) :: starEach es X.env := by rfl) (hpl : (backTo pos (starEach es X.env)).any (·.1) = false := by rfl) :
    PMk X (.Call (.Name cn p) (e :: es) [] pos) (fun σ H Q => ta σ H fun vs H1 => ∃ (i : Nat), vs = [.int i] ∧ i < 1000 ∧ ∀ d H2, H1 d = none → H2 d = some (.xd (oneFs fld i)) → (∀ b, b ≠ d → H2 b = H1 b) → Q (.ref C) (some d) H2) := by
  obtain ⟨f, fd, iC, tI, F1, bI⟩ := NE.ini
  intro pins s σ H Q I h
  refine pmk_oex (X := X) (e := e) (es := es) (p := p) (pos := pos) (ds := []) (dvs := []) NE.T iC tI F1 hr bI .nil (fun _ _ _ _ _ _ _ z => z.elim) hg NE.g (pa_weak ha) hdb he hpl pins s σ H Q I ⟨_, h, fun vs H1 h1 => ?_⟩
  obtain ⟨i, rfl, il, q⟩ := h1
  refine ⟨by show 1 ≤ 1000; decide, fun a na => ⟨a, C, i, rfl, upd_same, NE.T, NE.SC, il, NE.f1, fun dx nd ne => ⟨rfl, dx, oneFs fld i, upd_same, (upd_ne ne).trans upd_same, ?_, ?_⟩⟩⟩
  · rw [upd_ne ne] at nd
    exact nd
  · rw [upd_ne ne] at nd
    refine q dx _ nd upd_same fun b hb => ?_
    rw [upd_ne hb]
    by_cases e : b = a
    · rw [e, del_same, na]
    · rw [del_ne e, upd_ne e, upd_ne hb, upd_ne e]
end
/-! ### raising the errors of the package -/
/-- the class x at D: what its raising asks -/
structure ErrR (K : PySem.W.Frag) (mg : Str → Option Value) (x : Str) (D : Addr) : Prop where
  g : mg x = some (.ref D)
  x : PySem.W.excIn K D [.type "ValueError", .type "Exception", .type "BaseException", .type "object"] "ValueError.__new__" = true
  k : PySem.W.keepIn K (.ref D) = true
  b : PySem.W.subIn K (.ref D) (.type "BaseException") = some true
  t : PySem.W.typeIn K (.ref D) = some (.type "type")
theorem pmk_err {X : Cx} {x m : Str} {j : Nat} {p p2 pos : Pos} {D : Addr} (E : ErrR X.K X.mg x D) (hg : Gl X x) (hdb : (x == ("__debug__" : Str)) = false := by decide) : PMk X (.Call (.Name x p) [.Constant (.str m) j p2] [] pos) (fun _ H Q => Q (.ref D) none H) :=
  pmk_own PySem.F.excBase_ValueError E.x E.g E.k (raises_own E.b E.t) hg hdb
abbrev takesX {X : Cx} := @takes_of X
section
variable {P : Program} {w : World} {K : PySem.W.Frag} {mg : Str → Option Value} {base : Heap}
/-- a def with one parameter and a star parameter, that may raise -/
theorem fun_star1X {x qual p1 pv : Str} {st : Stmt} {f : Addr} {fd : FuncData} {N : List Str} {k : Nat} {sp : Sp} (F : Fun K x qual st f fd) (S : FnScope N ([p1] ++ [pv]) (defScope st))
    (h0 : ∀ (kV doc pm : Value) (an : Option Addr) (cdv ct a : Value), bindArgs (PySem.W.fnOf x qual (defArgs st) (defBody st) (defScope st) .none kV doc pm an cdv ct) ⟨[a], []⟩ = (newTuple [] >>= fun t => pure [(p1, a), (pv, t)]))
    (h1 : ∀ (kV doc pm : Value) (an : Option Addr) (cdv ct a r : Value) (rs : List Value), bindArgs (PySem.W.fnOf x qual (defArgs st) (defBody st) (defScope st) .none kV doc pm an cdv ct) ⟨a :: r :: rs, []⟩ = (newTuple (r :: rs) >>= fun t => pure [(p1, a), (pv, t)]))
    (hbody : ∀ (cdv : Value) (A : Around) (outer : List Env) (s : Shared) (H : Hp) (vs : List V) (Q : VK) (E : XK), Room k (A.deeper (PyProof.Rows.envOfC qual (defScope st) s.heap.objs.size f cdv)) → sp vs H Q E →
      ∃ t, PSs (cxOf (L2.CX P w) P w K mg base N qual (defScope st) f cdv A outer s H E) (defBody st) t ∧ t { nx := fun _ H' => Q .non H', rt := Q } (L2.start N vs) H) :
    FnR P w K mg base (L2.CX P w) (k + 1) f (fun vs H Q E => ∃ a rest, vs = a :: rest ∧ rest.length ≤ sizeLine ∧ ∀ p, H p = none → sp [a, .ref p] (upd H p (.tup rest)) Q E) := by
  obtain ⟨oc, od, kV, doc, pm, an, cdv, ct, osl, rfl, lk, hcd⟩ := F.ex
  have g := StX.fn_star (CX := L2.CX P w) (P := P) (w := w) (K := K) (mg := mg) (base := base) (k := k) (ps := [p1]) (pv := pv) (sp := sp) lk hcd S StX.cxUp
    (StX.bind_star1 (B := fun us => bindArgs (PySem.W.fnOf x qual (defArgs st) (defBody st) (defScope st) .none kV doc pm an cdv ct) ⟨us, []⟩) (h0 kV doc pm an cdv ct) (h1 kV doc pm an cdv ct))
    fun A outer s H vs Q E hr hsp => hbody cdv A outer s H vs Q E hr hsp
  exact g.imp fun vs H Q E ⟨a, rest, e, hz, h⟩ => ⟨[a], rest, e, rfl, hz, h⟩
end
/-! ### a law that makes lambdas: its own def, its table, what stands when a table grows -/
open LamX (Tabs TabS ExtN TabB CodeO) in
section
variable {K : PySem.W.Frag}
structure FunC (K : PySem.W.Frag) (x qual : Str) (st : Stmt) (f : Addr) (fd : FuncData) (c : Addr) : Prop where
  ex : ∃ (oc : Value) (od : Option Addr) (kV doc pm : Value) (an : Option Addr) (ct : Value) (osl : Array (Option Value)),
    fd = PySem.W.fnOf x qual (defArgs st) (defBody st) (defScope st) .none kV doc pm an (.ref c) ct ∧ K.lookup f = some ⟨oc, od, .func fd, osl⟩ ∧ PySem.W.codeIn K (.ref c) qual = true
theorem FunC.ok {P : Program} {w : World} {mg : Str → Option Value} {base : Heap} {x qual : Str} {st : Stmt} {f c : Addr} {fd : FuncData} {N ps : List Str} {k : Nat} {sp : Sp} (F : FunC K x qual st f fd c) (S : FnScope N ps (defScope st)) (len : ∀ vs H Q E, sp vs H Q E → vs.length = ps.length)
    (hbody : ∀ (A : Around) (outer : List Env) (s : Shared) (H : Hp) (vs : List V) (Q : VK) (E : XK), Room k (A.deeper (PyProof.Rows.envOfC qual (defScope st) s.heap.objs.size f (.ref c))) → sp vs H Q E →
      ∃ t, PSs (cxOf CX0 P w K mg base N qual (defScope st) f (.ref c) A outer s H E).nox (defBody st) t ∧ t { nx := fun _ H' => Q .non H', rt := Q } (L2.start N vs) H) : FnOk P w K mg base CX0 (k + 1) f fd ps sp := by
  obtain ⟨oc, od, kV, doc, pm, an, ct, osl, rfl, lk, hcd⟩ := F.ex
  refine fn_of lk hcd S len fun A outer s H vs Q E hr hsp => ?_
  obtain ⟨t, h, q⟩ := hbody A outer s H vs Q E hr hsp
  exact ⟨t, h.nox, q⟩
/-- the law's promise where its code object's table is Pt -/
def spLawT (K : PySem.W.Frag) (Pt : Addr) : Sp := fun vs H Q _ => ∃ (a : Addr) (ns : List Int), vs = [.ref a] ∧ SqL K H a (ns.map V.int) ∧ ns.length ≤ 63 ∧ H Pt = some (.tbl #[]) ∧ ∀ H', Q (.bl true) H'
theorem codeO_lst {c : Addr} {q : Str} {xs : List V} : CodeO c q ≠ .lst xs := fun z => by
  unfold CodeO at z
  cases z
theorem codeO_ins {c C dx : Addr} {q : Str} {fs : List (Str × V)} : CodeO c q ≠ .ins C dx fs := fun z => by
  unfold CodeO at z
  cases z
theorem tabs_but {T : List (Addr × Str)} {H H' : Hp} {d : Addr} {o : HO} (t : Tabs T H) (b : But d H H') (hd : H d = some o) (n1 : ∀ ps, o ≠ .tbl ps) (n2 : ∀ c q, o ≠ CodeO c q) : Tabs T H' := fun p hp => by
  obtain ⟨ps, h1, h2, h3⟩ := t p hp
  refine ⟨ps, b _ _ (fun z => ?_) h1, h2, fun pos cv hc => ?_⟩
  · rw [z, hd] at h1
    exact n1 _ (Option.some.inj h1)
  · obtain ⟨c, e, h4⟩ := h3 pos cv hc
    refine ⟨c, e, b _ _ (fun z => ?_) h4⟩
    rw [z, hd] at h4
    exact n2 _ _ (Option.some.inj h4)
theorem tabs_butL {T : List (Addr × Str)} {H H' : Hp} {d : Addr} {xs : List V} (t : Tabs T H) (b : But d H H') (hd : H d = some (.lst xs)) : Tabs T H' := tabs_but t b hd (fun ps z => by cases z) fun c q z => codeO_lst z.symm
theorem tabs_butD {T : List (Addr × Str)} {H H' : Hp} {d : Addr} (t : Tabs T H) (b : But d H H') (D : DAt H d) : Tabs T H' := by
  obtain ⟨_, _, _, _, _, hd⟩ := D
  exact tabs_butL t b hd
theorem tabs_butI {T : List (Addr × Str)} {H H' : Hp} {s C dx : Addr} {fs : List (Str × V)} (t : Tabs T H) (b : But s H H') (hi : H s = some (.ins C dx fs)) : Tabs T H' := tabs_but t b hi (fun ps z => by cases z) fun c q z => codeO_ins z.symm
section
variable {H H' : Hp}
theorem ExtN.tk (e : ExtN H H') : TupKeep H H' := fun _ _ h => e _ _ h fun ps z => by cases z
theorem ExtN.lst (e : ExtN H H') {b : Addr} {xs : List V} (h : H b = some (.lst xs)) : H' b = some (.lst xs) := e _ _ h fun ps z => by cases z
theorem ExtN.ins (e : ExtN H H') {b C dx : Addr} {fs : List (Str × V)} (h : H b = some (.ins C dx fs)) : H' b = some (.ins C dx fs) := e _ _ h fun ps z => by cases z
theorem ExtN.dT (e : ExtN H H') {b : Addr} {kvs : List (List L2.Key × V)} (h : H b = some (.dT kvs)) : H' b = some (.dT kvs) := e _ _ h fun ps z => by cases z
theorem DAt.extN {d : Addr} (D : DAt H d) (e : ExtN H H') : DAt H' d := by
  obtain ⟨a, b, c, h1, h2, h3⟩ := D
  exact ⟨a, b, c, h1, h2, ExtN.lst e h3⟩
theorem NetAt.extN {C : Addr} {x : Addr} {p h : Nat} {os : List Od} {t : Addr} {F : List Addr} (N : NetAt C H x p h os t F) (e : ExtN H H') : NetAt C H' x p h os t F := by
  obtain ⟨dx, fl, as, rfl, h1, h2, h3, h4, h5⟩ := N
  exact ⟨dx, fl, as, rfl, ExtN.ins e h1, h2.keep (ExtN.tk e), ExtN.lst e h3, h4, fun i a hi => ExtN.lst e (h5 i a hi)⟩
theorem tabs_same {T : List (Addr × Str)} (t : Tabs T H) (s : Same H H') : Tabs T H' := LamX.Tabs.ext t fun b o e => s b o e
end
end
abbrev s_l_error_of : Stmt := top 45
abbrev N_l_error_of : List Str := ["_law_call", "e", "_law_kinds", "_law_names", "_law_name"]
abbrev P_l_error_of : List Str := ["_law_call"]
theorem sc_l_error_of : FnScope N_l_error_of P_l_error_of (defScope s_l_error_of) := ⟨rfl, rfl, rfl, by decide +kernel, rfl, by decide +kernel, by decide +kernel⟩
/-! ### the law's helper: which error a call raises -/
def eNames : List Str := ["day", "house", "number", "limit", "order", "many", "long", "result", "contradiction", "name", "unknown", "net", "text", "code", "operation"]
def eName (i : Nat) : Str := eNames.getD i "day"
/-- the classes of errors, by the names that the law's helper asks for -/
structure ErrM (mg : Str → Option Value) (CP : Addr) (c : Nat → Addr) : Prop where
  gp : mg "PostError" = some (.ref CP)
  g0 : mg "InvalidDay" = some (.ref (c 0))
  g1 : mg "UnknownHouse" = some (.ref (c 1))
  g2 : mg "UnknownOrder" = some (.ref (c 2))
  g3 : mg "InvalidLimit" = some (.ref (c 3))
  g4 : mg "InvalidOrder" = some (.ref (c 4))
  g5 : mg "TooManyOrders" = some (.ref (c 5))
  g6 : mg "TooLong" = some (.ref (c 6))
  g7 : mg "InvalidResult" = some (.ref (c 7))
  g8 : mg "Contradiction" = some (.ref (c 8))
  g9 : mg "InvalidName" = some (.ref (c 9))
  g10 : mg "UnknownName" = some (.ref (c 10))
  g11 : mg "InvalidNet" = some (.ref (c 11))
  g12 : mg "TextFault" = some (.ref (c 12))
  g13 : mg "InvalidCode" = some (.ref (c 13))
  g14 : mg "InvalidOperation" = some (.ref (c 14))
  gv : mg "ValueError" = none
/-- D is the i-th of these classes -/
structure Err15 (K : PySem.W.Frag) (CP : Addr) (c : Nat → Addr) (D : Addr) (i : Nat) : Prop where
  lt : i < 15
  cl : ExcC K D
  ex : PySem.W.exmOne K (.ref D) (.ref CP) = some true
  is : ∀ j, j < 15 → PySem.W.kitOne K (.ref D) (.ref (c j)) = some (decide (j = i))
  ve : PySem.W.kitOne K (.ref D) (.type "ValueError") = some true
def kindsL (i : Nat) : List V := (List.range 15).map fun j => V.bl (decide (j = i))
theorem kinds_count (i : Nat) (h : i < 15) : ((List.range 15).map fun j => PyData.bool (decide (j = i))).countP (fun z => PyData.eqv z (.bool true)) = 1 := by
  rw [List.countP_map]
  have e : ((fun z => PyData.eqv z (.bool true)) ∘ fun j => PyData.bool (decide (j = i))) = fun j => decide (j = i) := by
    funext j
    show PyData.eqv (.bool (decide (j = i))) (.bool true) = decide (j = i)
    cases decide (j = i) <;> simp [PyData.eqv]
  rw [e]
  have : ∀ i, i < 15 → (List.range 15).countP (fun j => decide (j = i)) = 1 := by decide +kernel
  exact this i h
section
variable {K : PySem.W.Frag} {H : Hp}
theorem kinds_dp (i : Nat) : DpAll K H (kindsL i) ((List.range 15).map fun j => PyData.bool (decide (j = i))) := by
  unfold kindsL
  generalize List.range 15 = l
  induction l with
  | nil => exact .nil
  | cons j r ih => exact .cons (.bl _) ih
end
theorem kinds_plain (i : Nat) : PyData.plainAll ((List.range 15).map fun j => PyData.bool (decide (j = i))) = true := by
  generalize List.range 15 = l
  induction l with
  | nil => rfl
  | cons j r ih => simp [PyData.plainAll, PyData.plain, ih]
theorem kinds_at {i j : Nat} (h : j < 15) : (kindsL i)[j]? = some (V.bl (decide (j = i))) := by
  unfold kindsL
  rw [List.getElem?_map, List.getElem?_range h]
  rfl
theorem kinds_flat (i : Nat) : (kindsL i).all flatV = true := by
  rw [List.all_eq_true]
  intro v hv
  obtain ⟨j, _, rfl⟩ := List.mem_map.mp hv
  rfl
theorem eName_plain : ∀ i, i < 11 → eName i ≠ "net" ∧ eName i ≠ "text" ∧ eName i ≠ "code" ∧ eName i ≠ "operation" := by decide +kernel
theorem eName_at {i : Nat} (h : i < 15) : (eNames.map V.str)[i]? = some (V.str (eName i)) := by
  have hl : i < eNames.length := h
  unfold eName
  rw [List.getElem?_map, List.getElem?_eq_getElem hl]
  simp [List.getD, List.getElem?_eq_getElem hl]
section
variable {X : Cx}
theorem pe_never {e : Expr} : PE X e (fun _ _ _ => False) := ⟨fun _ _ _ _ _ _ h => h.elim⟩
end
section
open LamX
variable {X : Cx} {C : Addr}
/-- what the helper makes of a call that raises one of the plain errors, or none -/
def TTerr (K : PySem.W.Frag) (CP : Addr) (c : Nat → Addr) : (XK → Hp → VK → Prop) → Hp → VK → Prop := fun tl H Q =>
  tl (fun cls d H' => ∃ D i, cls = .ref D ∧ d = none ∧ Err15 K CP c D i ∧ i < 11 ∧ ∀ u H'', Same H' H'' → H'' u = some (.tup [.str (eName i), .int 0]) → Q (.ref u) H'') H fun _ H' => Q .non H'
set_option maxHeartbeats 0 in
theorem err_core {g CP : Addr} {cdg : Value} {c : Nat → Addr} {k : Nat} (M : ErrM X.mg CP c) (B : Blt X.mg) (hr : Room (k + 2) X.A) {f : Addr} {s : Shared} {H : Hp} {Q : VK} {tl : XK → Hp → VK → Prop}
    (act : ∀ (W : WX) (pn : List (Addr × Obj)) (xe : Value → Shared → Prop) (E : XK) (p1 p2 : Pos), L2.Takes ((cxOf C8.CX0 X.prog X.w X.K X.mg X.base N_l_error_of "_law_error_of" (defScope s_l_error_of) g cdg X.A X.stack s H C8.E0).tr pn xe) W → (∀ cls d σ' H', E cls d H' → W cls d σ' H') →
      PE ((cxOf C8.CX0 X.prog X.w X.K X.mg X.base N_l_error_of "_law_error_of" (defScope s_l_error_of) g cdg X.A X.stack s H C8.E0).tr pn xe) (.Call (.Name "_law_call" p1) [] [] p2) (fun σZ HZ Q => σZ[0]? = some (some (.ref f)) ∧ tl E HZ Q)) (h : TTerr X.K CP c tl H Q) :
    ∃ t, PSs (cxOf C8.CX0 X.prog X.w X.K X.mg X.base N_l_error_of "_law_error_of" (defScope s_l_error_of) g cdg X.A X.stack s H C8.E0).nox (defBody s_l_error_of) t ∧ t { nx := fun _ H' => Q .non H', rt := Q } (L2.start N_l_error_of [.ref f]) H := by
  have hu : (X.A.deeper (PyProof.Rows.envOfC "_law_error_of" (defScope s_l_error_of) s.heap.objs.size g cdg)).units + 65 < cLine := by
    have := (hr.deeper (PyProof.Rows.envOfC "_law_error_of" (defScope s_l_error_of) s.heap.objs.size g cdg)).un
    omega
  refine ⟨_, pss_cons (ps_try_as (X := (cxOf C8.CX0 X.prog X.w X.K X.mg X.base N_l_error_of "_law_error_of" (defScope s_l_error_of) g cdg X.A X.stack s H C8.E0).nox) (c := .ref CP) (i := 1)
      (tb := fun W D σ H => ∃ Ech : XK, (∀ cls d σ' H', Ech cls d H' → W cls d σ' H') ∧ σ[0]? = some (some (.ref f)) ∧ tl Ech H (fun _ H' => D.nx σ H'))
      (ts := fun a cls d Dn σ H => ∃ D i, cls = .ref D ∧ d = none ∧ Err15 X.K CP c D i ∧ i < 11 ∧ (∃ σ0 : L2.St, σ = σ0.set 1 (some (.ref a))) ∧ ∀ u H'', Same H H'' → H'' u = some (.tup [.str (eName i), .int 0]) → Dn.rt (.ref u) H'')
      rfl rfl sc_l_error_of.nd rfl rfl ⟨rfl, by decide, .inl M.gp⟩ L2.takes0 (fun W pn xe tk _ => ?_) (fun a oe cls d pn hz hf => ?_)) (pss_one (ps_ret pe_non)), ?_⟩
  · refine ⟨fun pins s' σ H' D I h' => ?_⟩
    obtain ⟨Ech, hW, h1, h3⟩ := h'
    refine PSs.run (pss_one (ps_expr (act W pn xe Ech _ _ tk hW))) pins s' σ H' D I ⟨h1, h3⟩
  · refine ⟨fun pins s' σ H' Dn I' h' => ?_⟩
    obtain ⟨D, i, rfl, rfl, e15, hi, ⟨σ0, rfl⟩, hq⟩ := h'
    have hlen : (σ0.set 1 (some (V.ref a))).length = 5 := I'.len
    rw [List.length_set] at hlen
    obtain ⟨y0, y1, y2, y3, y4, rfl⟩ : ∃ y0 y1 y2 y3 y4, σ0 = [y0, y1, y2, y3, y4] := by
      match σ0, hlen with
      | [y0, y1, y2, y3, y4], _ => exact ⟨_, _, _, _, _, rfl⟩
    let Z : Cx := (cxOf C8.CX0 X.prog X.w X.K X.mg X.base N_l_error_of "_law_error_of" (defScope s_l_error_of) g cdg X.A X.stack s H C8.E0).nox
    have iE := call_isE (X := Z) (a := a) (D := D) (oe := oe) (pn := pn) e15.cl hz hf
    refine PSs.run (X := Z.suite a ((a, oe) :: pn)) (pss_cons (ps_set (i := 2) sc_l_error_of.nd rfl (.inl rfl) (pe_lst (pa_cons (pe_callB iE (by rfl) B.isi PyProof.Rows.boot_isinstance (pa_cons (pv 1) (pa_cons (pe_glob (v := .ref (c 0)) (by rfl) M.g0 rfl) pa_nil))) (pa_cons (pe_callB iE (by rfl) B.isi PyProof.Rows.boot_isinstance (pa_cons (pv 1) (pa_cons (pe_glob (v := .ref (c 1)) (by rfl) M.g1 rfl) pa_nil))) (pa_cons (pe_callB iE (by rfl) B.isi PyProof.Rows.boot_isinstance (pa_cons (pv 1) (pa_cons (pe_glob (v := .ref (c 2)) (by rfl) M.g2 rfl) pa_nil))) pa_nil)))))
        (pss_cons (ps_set (i := 2) sc_l_error_of.nd rfl (.inl rfl) (pe_op op_cat (pv 2) (pe_lst (pa_cons (pe_callB iE (by rfl) B.isi PyProof.Rows.boot_isinstance (pa_cons (pv 1) (pa_cons (pe_glob (v := .ref (c 3)) (by rfl) M.g3 rfl) pa_nil))) (pa_cons (pe_callB iE (by rfl) B.isi PyProof.Rows.boot_isinstance (pa_cons (pv 1) (pa_cons (pe_glob (v := .ref (c 4)) (by rfl) M.g4 rfl) pa_nil))) (pa_cons (pe_callB iE (by rfl) B.isi PyProof.Rows.boot_isinstance (pa_cons (pv 1) (pa_cons (pe_glob (v := .ref (c 5)) (by rfl) M.g5 rfl) pa_nil))) pa_nil))))))
        (pss_cons (ps_set (i := 2) sc_l_error_of.nd rfl (.inl rfl) (pe_op op_cat (pv 2) (pe_lst (pa_cons (pe_callB iE (by rfl) B.isi PyProof.Rows.boot_isinstance (pa_cons (pv 1) (pa_cons (pe_glob (v := .ref (c 6)) (by rfl) M.g6 rfl) pa_nil))) (pa_cons (pe_callB iE (by rfl) B.isi PyProof.Rows.boot_isinstance (pa_cons (pv 1) (pa_cons (pe_glob (v := .ref (c 7)) (by rfl) M.g7 rfl) pa_nil))) (pa_cons (pe_callB iE (by rfl) B.isi PyProof.Rows.boot_isinstance (pa_cons (pv 1) (pa_cons (pe_glob (v := .ref (c 8)) (by rfl) M.g8 rfl) pa_nil))) pa_nil))))))
        (pss_cons (ps_set (i := 2) sc_l_error_of.nd rfl (.inl rfl) (pe_op op_cat (pv 2) (pe_lst (pa_cons (pe_callB iE (by rfl) B.isi PyProof.Rows.boot_isinstance (pa_cons (pv 1) (pa_cons (pe_glob (v := .ref (c 9)) (by rfl) M.g9 rfl) pa_nil))) (pa_cons (pe_callB iE (by rfl) B.isi PyProof.Rows.boot_isinstance (pa_cons (pv 1) (pa_cons (pe_glob (v := .ref (c 10)) (by rfl) M.g10 rfl) pa_nil))) (pa_cons (pe_callB iE (by rfl) B.isi PyProof.Rows.boot_isinstance (pa_cons (pv 1) (pa_cons (pe_glob (v := .ref (c 11)) (by rfl) M.g11 rfl) pa_nil))) pa_nil))))))
        (pss_cons (ps_set (i := 2) sc_l_error_of.nd rfl (.inl rfl) (pe_op op_cat (pv 2) (pe_lst (pa_cons (pe_callB iE (by rfl) B.isi PyProof.Rows.boot_isinstance (pa_cons (pv 1) (pa_cons (pe_glob (v := .ref (c 12)) (by rfl) M.g12 rfl) pa_nil))) (pa_cons (pe_callB iE (by rfl) B.isi PyProof.Rows.boot_isinstance (pa_cons (pv 1) (pa_cons (pe_glob (v := .ref (c 13)) (by rfl) M.g13 rfl) pa_nil))) (pa_cons (pe_callB iE (by rfl) B.isi PyProof.Rows.boot_isinstance (pa_cons (pv 1) (pa_cons (pe_glob (v := .ref (c 14)) (by rfl) M.g14 rfl) pa_nil))) pa_nil))))))
        (pss_cons (ps_if (PW.pt (pw_or (pt_cmpR op_ne (pe_bm PySem.F.plainAttrs_list PySem.F.slot_list_count PySem.F.type_list_count (mt_countD hu) (pv 2) (pa_cons pe_bl pa_nil)) pe_int (nomark _)) (pw_or1 (pt_not (pt_val (pe_callB iE (by rfl) B.isi PyProof.Rows.boot_isinstance (pa_cons (pv 1) (pa_cons (pe_bltn (v := .ty "ValueError") (by rfl) M.gv (by decide +kernel) rfl) pa_nil)))))))) (pss_one (ps_ret (pe_tup (pa_cons pe_str (pa_cons pe_int pa_nil))))) pss_nil)
        (pss_cons (ps_set (i := 3) sc_l_error_of.nd rfl (.inl rfl) (pe_lst (pa_cons pe_str (pa_cons pe_str (pa_cons pe_str (pa_cons pe_str (pa_cons pe_str (pa_cons pe_str (pa_cons pe_str (pa_cons pe_str (pa_cons pe_str (pa_cons pe_str pa_nil))))))))))))
        (pss_cons (ps_set (i := 4) sc_l_error_of.nd rfl (.inl rfl) (pe_ix ix_list (pe_op op_cat (pv 3) (pe_lst (pa_cons pe_str (pa_cons pe_str (pa_cons pe_str (pa_cons pe_str (pa_cons pe_str pa_nil))))))) (pe_bm PySem.F.plainAttrs_list PySem.F.slot_list_index PySem.F.type_list_index mt_index (pv 2) (pa_cons pe_bl pa_nil)) (fun _ _ => rfl)))
        (pss_cons (ps_if (pt_cmpR op_eq (pv 4) pe_str (nomark _)) (pss_one (ps_ret pe_never)) pss_nil)
        (pss_cons (ps_if (pt_cmpR op_eq (pv 4) pe_str (nomark _)) (pss_one (ps_ret pe_never)) pss_nil)
        (pss_one (ps_ret (pe_tup (pa_cons (pv 4) (pa_cons (pe_ifExp (pt_cmpR op_in_seq (pv 4) (pe_lst (pa_cons pe_str (pa_cons pe_str pa_nil))) rfl) pe_never pe_int) pa_nil))))))))))))))) pins s' _ H' Dn I' ?_
    refine ⟨_, rfl, .ref (c 0), .ref (c 0), _, rfl, (fun _ r => r), e15.is 0 (by decide), _, rfl, .ref (c 1), .ref (c 1), _, rfl, (fun _ r => r), e15.is 1 (by decide), _, rfl, .ref (c 2), .ref (c 2), _, rfl, (fun _ r => r), e15.is 2 (by decide), (by show 3 ≤ sizeLine; decide), fun l0 n0 => ?_⟩
    have hk0 : (upd H' l0 (.lst [.bl (decide (0 = i)), .bl (decide (1 = i)), .bl (decide (2 = i))])) l0 = some (.lst [.bl (decide (0 = i)), .bl (decide (1 = i)), .bl (decide (2 = i))]) := upd_same
    have sm0 := same_upd (o := HO.lst [.bl (decide (0 = i)), .bl (decide (1 = i)), .bl (decide (2 = i))]) n0
    generalize (upd H' l0 (.lst [.bl (decide (0 = i)), .bl (decide (1 = i)), .bl (decide (2 = i))])) = H0 at hk0 sm0
    refine ⟨_, rfl, _, rfl, .ref (c 3), .ref (c 3), _, rfl, (fun _ r => r), e15.is 3 (by decide), _, rfl, .ref (c 4), .ref (c 4), _, rfl, (fun _ r => r), e15.is 4 (by decide), _, rfl, .ref (c 5), .ref (c 5), _, rfl, (fun _ r => r), e15.is 5 (by decide), (by show 3 ≤ sizeLine; decide), fun b1 nb1 => ?_⟩
    obtain ⟨L1, eL1⟩ : ∃ L : List V, L = [.bl (decide (0 = i)), .bl (decide (1 = i)), .bl (decide (2 = i))] ++ [.bl (decide (3 = i)), .bl (decide (4 = i)), .bl (decide (5 = i))] := ⟨_, rfl⟩
    have sb1 := same_upd (o := HO.lst [.bl (decide (3 = i)), .bl (decide (4 = i)), .bl (decide (5 = i))]) nb1
    refine ⟨l0, b1, _, _, rfl, rfl, sb1 _ _ hk0, upd_same, (by show 3 + 3 ≤ sizeLine; decide), fun l1 n1 => ?_⟩
    rw [← eL1]
    have sm1 := sm0.trans (sb1.trans (same_upd (o := HO.lst L1) n1))
    have hk1 : (upd (upd H0 b1 (.lst [.bl (decide (3 = i)), .bl (decide (4 = i)), .bl (decide (5 = i))])) l1 (.lst L1)) l1 = some (.lst L1) := upd_same
    generalize (upd (upd H0 b1 (.lst [.bl (decide (3 = i)), .bl (decide (4 = i)), .bl (decide (5 = i))])) l1 (.lst L1)) = H1 at hk1 sm1
    refine ⟨_, rfl, _, rfl, .ref (c 6), .ref (c 6), _, rfl, (fun _ r => r), e15.is 6 (by decide), _, rfl, .ref (c 7), .ref (c 7), _, rfl, (fun _ r => r), e15.is 7 (by decide), _, rfl, .ref (c 8), .ref (c 8), _, rfl, (fun _ r => r), e15.is 8 (by decide), (by show 3 ≤ sizeLine; decide), fun b2 nb2 => ?_⟩
    obtain ⟨L2, eL2⟩ : ∃ L : List V, L = L1 ++ [.bl (decide (6 = i)), .bl (decide (7 = i)), .bl (decide (8 = i))] := ⟨_, rfl⟩
    have sb2 := same_upd (o := HO.lst [.bl (decide (6 = i)), .bl (decide (7 = i)), .bl (decide (8 = i))]) nb2
    refine ⟨l1, b2, _, _, rfl, rfl, sb2 _ _ hk1, upd_same, (by rw [eL1]; show 6 + 3 ≤ sizeLine; decide), fun l2 n2 => ?_⟩
    rw [← eL2]
    have sm2 := sm1.trans (sb2.trans (same_upd (o := HO.lst L2) n2))
    have hk2 : (upd (upd H1 b2 (.lst [.bl (decide (6 = i)), .bl (decide (7 = i)), .bl (decide (8 = i))])) l2 (.lst L2)) l2 = some (.lst L2) := upd_same
    generalize (upd (upd H1 b2 (.lst [.bl (decide (6 = i)), .bl (decide (7 = i)), .bl (decide (8 = i))])) l2 (.lst L2)) = H2 at hk2 sm2
    refine ⟨_, rfl, _, rfl, .ref (c 9), .ref (c 9), _, rfl, (fun _ r => r), e15.is 9 (by decide), _, rfl, .ref (c 10), .ref (c 10), _, rfl, (fun _ r => r), e15.is 10 (by decide), _, rfl, .ref (c 11), .ref (c 11), _, rfl, (fun _ r => r), e15.is 11 (by decide), (by show 3 ≤ sizeLine; decide), fun b3 nb3 => ?_⟩
    obtain ⟨L3, eL3⟩ : ∃ L : List V, L = L2 ++ [.bl (decide (9 = i)), .bl (decide (10 = i)), .bl (decide (11 = i))] := ⟨_, rfl⟩
    have sb3 := same_upd (o := HO.lst [.bl (decide (9 = i)), .bl (decide (10 = i)), .bl (decide (11 = i))]) nb3
    refine ⟨l2, b3, _, _, rfl, rfl, sb3 _ _ hk2, upd_same, (by rw [eL2, eL1]; show 9 + 3 ≤ sizeLine; decide), fun l3 n3 => ?_⟩
    rw [← eL3]
    have sm3 := sm2.trans (sb3.trans (same_upd (o := HO.lst L3) n3))
    have hk3 : (upd (upd H2 b3 (.lst [.bl (decide (9 = i)), .bl (decide (10 = i)), .bl (decide (11 = i))])) l3 (.lst L3)) l3 = some (.lst L3) := upd_same
    generalize (upd (upd H2 b3 (.lst [.bl (decide (9 = i)), .bl (decide (10 = i)), .bl (decide (11 = i))])) l3 (.lst L3)) = H3 at hk3 sm3
    refine ⟨_, rfl, _, rfl, .ref (c 12), .ref (c 12), _, rfl, (fun _ r => r), e15.is 12 (by decide), _, rfl, .ref (c 13), .ref (c 13), _, rfl, (fun _ r => r), e15.is 13 (by decide), _, rfl, .ref (c 14), .ref (c 14), _, rfl, (fun _ r => r), e15.is 14 (by decide), (by show 3 ≤ sizeLine; decide), fun b4 nb4 => ?_⟩
    obtain ⟨L4, eL4⟩ : ∃ L : List V, L = L3 ++ [.bl (decide (12 = i)), .bl (decide (13 = i)), .bl (decide (14 = i))] := ⟨_, rfl⟩
    have sb4 := same_upd (o := HO.lst [.bl (decide (12 = i)), .bl (decide (13 = i)), .bl (decide (14 = i))]) nb4
    refine ⟨l3, b4, _, _, rfl, rfl, sb4 _ _ hk3, upd_same, (by rw [eL3, eL2, eL1]; show 12 + 3 ≤ sizeLine; decide), fun l4 n4 => ?_⟩
    rw [← eL4]
    have sm4 := sm3.trans (sb4.trans (same_upd (o := HO.lst L4) n4))
    have hk4 : (upd (upd H3 b4 (.lst [.bl (decide (12 = i)), .bl (decide (13 = i)), .bl (decide (14 = i))])) l4 (.lst L4)) l4 = some (.lst L4) := upd_same
    generalize (upd (upd H3 b4 (.lst [.bl (decide (12 = i)), .bl (decide (13 = i)), .bl (decide (14 = i))])) l4 (.lst L4)) = H4 at hk4 sm4
    have hk : H4 l4 = some (.lst (kindsL i)) := by rw [hk4, eL4, eL3, eL2, eL1]; rfl
    clear hk4 hk3 hk2 hk1 hk0
    refine ⟨_, rfl, .inl ⟨rfl, _, SqL.of hk⟩, l4, _, .bl true, .bool true, _, rfl, rfl, SqL.of hk, kinds_dp i, .bl true, kinds_plain i, rfl, by decide, ?_⟩
    rw [kinds_count i e15.lt]
    refine ⟨rfl, _, rfl, iteF ⟨_, rfl, .ty "ValueError", .type "ValueError", _, rfl, (fun _ r => r), e15.ve, _, rfl, iteF ?_⟩⟩
    refine ⟨(by show 10 ≤ sizeLine; decide), fun m1 nm1 => ?_⟩
    have st1 := same_upd (o := HO.lst ((eNames.take 10).map V.str)) nm1
    refine ⟨_, rfl, (by show 5 ≤ sizeLine; decide), fun m2 nm2 => ?_⟩
    have st2 := same_upd (o := HO.lst ((eNames.drop 10).map V.str)) nm2
    refine ⟨m1, m2, _, _, rfl, rfl, st2 _ _ upd_same, upd_same, (by show 10 + 5 ≤ sizeLine; decide), fun m3 nm3 => ?_⟩
    have st3 := same_upd (o := HO.lst (eNames.map V.str)) nm3
    have hkm := (st1.trans (st2.trans st3)) _ _ hk
    obtain ⟨p1, p2, p3, p4⟩ := eName_plain i hi
    refine ⟨_, rfl, .inl ⟨rfl, _, SqL.of hkm⟩, l4, _, .bl true, i, .bl (decide (i = i)), rfl, rfl, SqL.of hkm, rfl, kinds_flat i, kinds_at e15.lt, by simp [eqV], fun m z hm hz2 => ?_, m3, eNames.map V.str, (i : Nat), _, rfl, rfl, SqL.of upd_same, atI_nat (eName_at e15.lt), ?_⟩
    · rw [kinds_at (by omega)] at hz2
      obtain rfl := Option.some.inj hz2
      rw [decide_eq_false (by omega)]
      rfl
    refine ⟨_, rfl, rfl, _, rfl, ?_⟩
    rw [decide_eq_false fun z => p1 (V.str.inj z)]
    refine iteF ⟨_, rfl, rfl, _, rfl, ?_⟩
    rw [decide_eq_false fun z => p2 (V.str.inj z)]
    refine iteF ⟨_, rfl, _, rfl, (by show 2 ≤ sizeLine; decide), fun m4 nm4 => ⟨m4, _, rfl, .inl (SqL.of upd_same), rfl, rfl, _, rfl, ?_⟩⟩
    have ev : inV (.str (eName i)) [.str "code", .str "operation"] = false := by
      unfold inV
      rw [List.any_cons, List.any_cons, List.any_nil]
      show ((("code" : Str) == eName i) || ((("operation" : Str) == eName i) || false)) = false
      rw [beq_eq_false_iff_ne.mpr (Ne.symm p3), beq_eq_false_iff_ne.mpr (Ne.symm p4)]
      rfl
    rw [ev]
    have st4 := same_upd (o := HO.lst [.str "code", .str "operation"]) nm4
    exact iteF ⟨(by show 2 ≤ sizeLine; decide), fun u nu => hq u _ (sm4.trans (st1.trans (st2.trans (st3.trans (st4.trans (same_upd nu)))))) upd_same⟩
  · refine ⟨fun cls d H' => ∃ D i, cls = .ref D ∧ d = none ∧ Err15 X.K CP c D i ∧ i < 11 ∧ ∀ u H'', Same H' H'' → H'' u = some (.tup [.str (eName i), .int 0]) → Q (.ref u) H'', fun cls d σ' H' hx => ?_, rfl, h⟩
    obtain ⟨D, i, rfl, rfl, e15, hi, hq⟩ := hx
    exact ⟨true, e15.ex, fun _ a _ => ⟨D, i, rfl, rfl, e15, hi, ⟨_, rfl⟩, hq⟩, fun z => by cases z⟩
theorem err_gives {q : Str} {g CP : Addr} {cdg : Value} {c : Nat → Addr} {k : Nat} (M : ErrM X.mg CP c) (B : Blt X.mg) (hr : Room (k + 2) X.A) :
    GivesTo X N_l_error_of "_law_error_of" (defScope s_l_error_of) g cdg (defBody s_l_error_of) "_law_call" q (TTerr X.K CP c) := by
  intro f c' s H Q tl act hc h
  exact err_core M B hr (tl := fun E HZ Q' => HZ c' = some (CodeO c' q) ∧ tl E HZ Q') (fun W pn xe E p1 p2 tk hW => act W pn xe E p1 p2 tk hW) ⟨hc, h⟩
end
/-! ### what the end tells of the error classes -/
section
variable {K : PySem.W.Frag}
theorem kit_mk {t c : Addr} {b : Bool} (h1 : PySem.W.isClsIn K c = true) (h2 : PySem.W.typeIn K (.ref c) = some (.type "type")) (h3 : PySem.W.subIn K (.ref t) (.ref c) = some b) (h4 : b = true ∨ t ≠ c) : PySem.W.kitOne K (.ref t) (.ref c) = some b := by
  unfold PySem.W.kitOne
  by_cases e : (Value.ref t == Value.ref c) = true
  · rw [if_pos e]
    rcases h4 with z | z
    · rw [z]
    · exact absurd (by simpa using e) z
  · rw [if_neg e]
    have e2 : ((PySem.W.clsIn K c).isSome && PySem.W.typeIn K (.ref c) == some (.type "type")) = true := by
      have h1' : (PySem.W.clsIn K c).isSome = true := h1
      rw [h1', h2] <;> rfl
    show (if ((PySem.W.clsIn K c).isSome && PySem.W.typeIn K (.ref c) == some (.type "type")) = true then PySem.W.subIn K (.ref t) (.ref c) else none) = some b
    rw [if_pos e2]
    exact h3
theorem kit_ve {t : Addr} (h : PySem.W.subIn K (.ref t) (.type "ValueError") = some true) : PySem.W.kitOne K (.ref t) (.type "ValueError") = some true := by
  unfold PySem.W.kitOne
  rw [if_neg (by simp)]
  show (if PySem.W.kitMeta "ValueError" = true then PySem.W.subIn K (.ref t) (.type "ValueError") else none) = some true
  rw [if_pos (by decide +kernel)]
  exact h
theorem exm_mk {t c : Addr} (h0 : PySem.W.subIn K (.ref c) (.type "BaseException") = some true) (h1 : PySem.W.isClsIn K c = true) (h2 : PySem.W.typeIn K (.ref c) = some (.type "type")) (h3 : PySem.W.subIn K (.ref t) (.ref c) = some true) : PySem.W.exmOne K (.ref t) (.ref c) = some true := by
  have e1 : (PySem.W.subIn K (.ref c) (.type "BaseException") == some true) = true := by rw [h0] <;> rfl
  have e2 : ((PySem.W.clsIn K c).isSome && PySem.W.typeIn K (.ref c) == some (.type "type")) = true := by
    have h1' : (PySem.W.clsIn K c).isSome = true := h1
    rw [h1', h2] <;> rfl
  show (if (PySem.W.subIn K (.ref c) (.type "BaseException") == some true) = true then (if ((PySem.W.clsIn K c).isSome && PySem.W.typeIn K (.ref c) == some (.type "type")) = true then PySem.W.subIn K (.ref t) (.ref c) else none) else none) = some true
  rw [if_pos e1, if_pos e2]
  exact h3
theorem err15_mk {CP D : Addr} {c : Nat → Addr} {i : Nat} (lt : i < 15) (cl : ExcC K D) (ex : PySem.W.exmOne K (.ref D) (.ref CP) = some true) (ve : PySem.W.subIn K (.ref D) (.type "ValueError") = some true) (self : c i = D)
    (h : ∀ j, j < 15 → PySem.W.isClsIn K (c j) = true ∧ PySem.W.typeIn K (.ref (c j)) = some (.type "type") ∧ PySem.W.subIn K (.ref D) (.ref (c j)) = some (decide (j = i))) : Err15 K CP c D i := by
  refine ⟨lt, cl, ex, fun j hj => ?_, kit_ve ve⟩
  obtain ⟨h1, h2, h3⟩ := h j hj
  refine kit_mk h1 h2 h3 ?_
  by_cases e : j = i
  · exact .inl (decide_eq_true e)
  · refine .inr fun z => ?_
    obtain ⟨_, _, g⟩ := h i lt
    rw [self, decide_eq_true rfl] at g
    rw [← z, decide_eq_false e, g] at h3
    cases h3
end
/-! ### the law's helper: every kind of error -/
section
open LamX
variable {X : Cx} {C : Addr}
/-- isinstance of the error that a suite holds, its fields known or none -/
def rIsEd (K : PySem.W.Frag) (D a : Addr) (d : Option Addr) : List V → Hp → VK → Prop := fun xs H Q => ∃ (c : V) (cv : Value) (b : Bool), xs = [.ref a, c] ∧ (∀ u, L2.RelV c u → u = cv) ∧ PySem.W.kitOne K (.ref D) cv = some b ∧ (∀ dd, d = some dd → ∃ fs, H dd = some (.xd fs)) ∧ Q (.bl b) H
theorem call_isEd {X : Cx} {a D : Addr} {oe : Obj} {d : Option Addr} {pn : List (Addr × Obj)} (C : ExcC X.K D) (hz : Zc (.ref D) d oe) (hf : ∃ vs, oe.data = .fields vs) : CallR (X.suite a ((a, oe) :: pn)) (.builtin "isinstance") (rIsEd X.K D a d) := by
  intro pins s σ H xs us Q I r h
  obtain ⟨c, cv, b, rfl, hcv, e, hd, q⟩ := h
  cases r with
  | cons rx rr =>
    cases rr with
    | cons rt rr =>
      cases rr
      cases rx
      have ec := hcv _ rt
      subst ec
      obtain ⟨hget, _⟩ := I.pin (a, oe) (List.mem_append.mpr (.inl List.mem_cons_self))
      obtain ⟨vs, hv⟩ := hf
      obtain ⟨od, J⟩ : ∃ od, PySem.W.InstAt s.heap a oe D od := by
        obtain ⟨oc, odx, oda, osl⟩ := oe
        obtain ⟨h1, h2⟩ := hz
        dsimp only at h1 h2 hv
        subst h1 h2 hv
        cases odx with
        | none => exact ⟨none, hget, rfl, rfl, trivial⟩
        | some dd =>
          obtain ⟨fs, hx⟩ := hd dd rfl
          obtain ⟨o, ho⟩ : ∃ o, s.heap.get? dd = some o := by
            obtain ⟨mA, ⟨o, _, _, e', _⟩, _⟩ := I.hok dd _ hx
            exact ⟨o, e'⟩
          exact ⟨some o, hget, rfl, rfl, ho⟩
      exact PySem.W.kia_one (PySem.W.kitx_exc (by obtain ⟨cd, hc, _⟩ := PySem.W.any_some C.hd; rw [hc]; rfl) C.hg C.hk C.hs C.ha C.hn C.ht C.hm) I.kIn J e (fun z => nomatch z) fun tk => ⟨.bl b, H, I.kept (t' := tk) fun _ _ z => z, rfl, q⟩
/-- what the helper's answer is for an error that flies -/
def ErrE (K : PySem.W.Frag) (CP : Addr) (c : Nat → Addr) (cls : Value) (d : Option Addr) (H' : Hp) (Q : VK) : Prop := ∃ D i, cls = .ref D ∧ Err15 K CP c D i ∧
  ((d = none ∧ i < 11 ∧ ∀ u H'', Same H' H'' → H'' u = some (.tup [.str (eName i), .int 0]) → Q (.ref u) H'') ∨
   (i = 11 ∧ XfC K D ∧ PySem.W.findIn K (.ref D) "part" = some none ∧ PySem.W.findIn K (.ref D) "index" = some none ∧ ∃ (dd : Addr) (part : Str) (n : Nat), d = some dd ∧ H' dd = some (.xd [("index", .int n), ("part", .str part)]) ∧ ∀ u v H'', Same H' H'' → H'' v = some (.tup [.str part, .int n]) → H'' u = some (.tup [.str "net", .ref v]) → Q (.ref u) H'') ∨
   (i = 12 ∧ XfC K D ∧ PySem.W.findIn K (.ref D) "line" = some none ∧ ∃ (dd : Addr) (n : Nat), d = some dd ∧ H' dd = some (.xd [("line", .int n)]) ∧ ∀ u H'', Same H' H'' → H'' u = some (.tup [.str "text", .int n]) → Q (.ref u) H'') ∨
   ((i = 13 ∨ i = 14) ∧ XfC K D ∧ PySem.W.findIn K (.ref D) "place" = some none ∧ ∃ (dd : Addr) (n : Nat), d = some dd ∧ H' dd = some (.xd [("place", .int n)]) ∧ ∀ u H'', Same H' H'' → H'' u = some (.tup [.str (eName i), .int n]) → Q (.ref u) H''))
def TTerrE (K : PySem.W.Frag) (CP : Addr) (c : Nat → Addr) : (XK → Hp → VK → Prop) → Hp → VK → Prop := fun tl H Q => tl (fun cls d H' => ErrE K CP c cls d H' Q) H fun _ H' => Q .non H'
set_option maxHeartbeats 0 in
theorem err_coreE {g CP : Addr} {cdg : Value} {c : Nat → Addr} {k : Nat} (M : ErrM X.mg CP c) (B : Blt X.mg) (hr : Room (k + 2) X.A) {f : Addr} {s : Shared} {H : Hp} {Q : VK} {tl : XK → Hp → VK → Prop}
    (act : ∀ (W : WX) (pn : List (Addr × Obj)) (xe : Value → Shared → Prop) (E : XK) (p1 p2 : Pos), L2.Takes ((cxOf C8.CX0 X.prog X.w X.K X.mg X.base N_l_error_of "_law_error_of" (defScope s_l_error_of) g cdg X.A X.stack s H C8.E0).tr pn xe) W → (∀ cls d σ' H', E cls d H' → W cls d σ' H') →
      PE ((cxOf C8.CX0 X.prog X.w X.K X.mg X.base N_l_error_of "_law_error_of" (defScope s_l_error_of) g cdg X.A X.stack s H C8.E0).tr pn xe) (.Call (.Name "_law_call" p1) [] [] p2) (fun σZ HZ Q => σZ[0]? = some (some (.ref f)) ∧ tl E HZ Q)) (h : TTerrE X.K CP c tl H Q) :
    ∃ t, PSs (cxOf C8.CX0 X.prog X.w X.K X.mg X.base N_l_error_of "_law_error_of" (defScope s_l_error_of) g cdg X.A X.stack s H C8.E0).nox (defBody s_l_error_of) t ∧ t { nx := fun _ H' => Q .non H', rt := Q } (L2.start N_l_error_of [.ref f]) H := by
  have hu : (X.A.deeper (PyProof.Rows.envOfC "_law_error_of" (defScope s_l_error_of) s.heap.objs.size g cdg)).units + 65 < cLine := by
    have := (hr.deeper (PyProof.Rows.envOfC "_law_error_of" (defScope s_l_error_of) s.heap.objs.size g cdg)).un
    omega
  refine ⟨_, pss_cons (ps_try_as (X := (cxOf C8.CX0 X.prog X.w X.K X.mg X.base N_l_error_of "_law_error_of" (defScope s_l_error_of) g cdg X.A X.stack s H C8.E0).nox) (c := .ref CP) (i := 1)
      (tb := fun W D σ H => ∃ Ech : XK, (∀ cls d σ' H', Ech cls d H' → W cls d σ' H') ∧ σ[0]? = some (some (.ref f)) ∧ tl Ech H (fun _ H' => D.nx σ H'))
      (ts := fun a cls d Dn σ H => ErrE X.K CP c cls d H Dn.rt ∧ ∃ σ0 : L2.St, σ = σ0.set 1 (some (.ref a)))
      rfl rfl sc_l_error_of.nd rfl rfl ⟨rfl, by decide, .inl M.gp⟩ L2.takes0 (fun W pn xe tk _ => ?_) (fun a oe cls d pn hz hf => ?_)) (pss_one (ps_ret pe_non)), ?_⟩
  · refine ⟨fun pins s' σ H' D I h' => ?_⟩
    obtain ⟨Ech, hW, h1, h3⟩ := h'
    refine PSs.run (pss_one (ps_expr (act W pn xe Ech _ _ tk hW))) pins s' σ H' D I ⟨h1, h3⟩
  · refine ⟨fun pins s' σ H' Dn I' h' => ?_⟩
    obtain ⟨⟨D, i, rfl, e15, hq⟩, σ0, rfl⟩ := h'
    have hlen : (σ0.set 1 (some (V.ref a))).length = 5 := I'.len
    rw [List.length_set] at hlen
    obtain ⟨y0, y1, y2, y3, y4, rfl⟩ : ∃ y0 y1 y2 y3 y4, σ0 = [y0, y1, y2, y3, y4] := by
      match σ0, hlen with
      | [y0, y1, y2, y3, y4], _ => exact ⟨_, _, _, _, _, rfl⟩
    let Z : Cx := (cxOf C8.CX0 X.prog X.w X.K X.mg X.base N_l_error_of "_law_error_of" (defScope s_l_error_of) g cdg X.A X.stack s H C8.E0).nox
    have xfE : ∀ n : Str, ∃ t : TE, (∀ p1 p2, PE (Z.suite a ((a, oe) :: pn)) (.Attribute (.Name "e" p1) n p2) t) ∧ (XfC X.K D → PySem.W.findIn X.K (.ref D) n = some none → t = tXf a (.ref D) d D n (tVar 1)) := fun n => by
      by_cases hx : XfC X.K D ∧ PySem.W.findIn X.K (.ref D) n = some none
      · exact ⟨_, fun p1 p2 => pe_xf hx.1 hx.2 hz hf (pv 1) rfl, fun _ _ => rfl⟩
      · exact ⟨_, fun p1 p2 => pe_never, fun z1 z2 => absurd ⟨z1, z2⟩ hx⟩
    obtain ⟨tp, Pp, ep⟩ := xfE "part"
    obtain ⟨ti, Pi, ei⟩ := xfE "index"
    obtain ⟨tl2, Pl, el⟩ := xfE "line"
    obtain ⟨tc2, Pc, ec⟩ := xfE "place"
    have dk : ∀ H2, Same H' H2 → ∀ dd, d = some dd → ∃ fs, H2 dd = some (.xd fs) := fun H2 s2 dd e => by
      rcases hq with ⟨z, _⟩ | ⟨_, _, _, _, d2, _, _, z, hx, _⟩ | ⟨_, _, _, d2, _, z, hx, _⟩ | ⟨_, _, _, d2, _, z, hx, _⟩
      · rw [z] at e; cases e
      all_goals (rw [z] at e; cases e; exact ⟨_, s2 _ _ hx⟩)
    have iE := call_isEd (X := Z) (a := a) (D := D) (oe := oe) (d := d) (pn := pn) e15.cl hz hf
    refine PSs.run (X := Z.suite a ((a, oe) :: pn)) (pss_cons (ps_set (i := 2) sc_l_error_of.nd rfl (.inl rfl) (pe_lst (pa_cons (pe_callB iE (by rfl) B.isi PyProof.Rows.boot_isinstance (pa_cons (pv 1) (pa_cons (pe_glob (v := .ref (c 0)) (by rfl) M.g0 rfl) pa_nil))) (pa_cons (pe_callB iE (by rfl) B.isi PyProof.Rows.boot_isinstance (pa_cons (pv 1) (pa_cons (pe_glob (v := .ref (c 1)) (by rfl) M.g1 rfl) pa_nil))) (pa_cons (pe_callB iE (by rfl) B.isi PyProof.Rows.boot_isinstance (pa_cons (pv 1) (pa_cons (pe_glob (v := .ref (c 2)) (by rfl) M.g2 rfl) pa_nil))) pa_nil)))))
        (pss_cons (ps_set (i := 2) sc_l_error_of.nd rfl (.inl rfl) (pe_op op_cat (pv 2) (pe_lst (pa_cons (pe_callB iE (by rfl) B.isi PyProof.Rows.boot_isinstance (pa_cons (pv 1) (pa_cons (pe_glob (v := .ref (c 3)) (by rfl) M.g3 rfl) pa_nil))) (pa_cons (pe_callB iE (by rfl) B.isi PyProof.Rows.boot_isinstance (pa_cons (pv 1) (pa_cons (pe_glob (v := .ref (c 4)) (by rfl) M.g4 rfl) pa_nil))) (pa_cons (pe_callB iE (by rfl) B.isi PyProof.Rows.boot_isinstance (pa_cons (pv 1) (pa_cons (pe_glob (v := .ref (c 5)) (by rfl) M.g5 rfl) pa_nil))) pa_nil))))))
        (pss_cons (ps_set (i := 2) sc_l_error_of.nd rfl (.inl rfl) (pe_op op_cat (pv 2) (pe_lst (pa_cons (pe_callB iE (by rfl) B.isi PyProof.Rows.boot_isinstance (pa_cons (pv 1) (pa_cons (pe_glob (v := .ref (c 6)) (by rfl) M.g6 rfl) pa_nil))) (pa_cons (pe_callB iE (by rfl) B.isi PyProof.Rows.boot_isinstance (pa_cons (pv 1) (pa_cons (pe_glob (v := .ref (c 7)) (by rfl) M.g7 rfl) pa_nil))) (pa_cons (pe_callB iE (by rfl) B.isi PyProof.Rows.boot_isinstance (pa_cons (pv 1) (pa_cons (pe_glob (v := .ref (c 8)) (by rfl) M.g8 rfl) pa_nil))) pa_nil))))))
        (pss_cons (ps_set (i := 2) sc_l_error_of.nd rfl (.inl rfl) (pe_op op_cat (pv 2) (pe_lst (pa_cons (pe_callB iE (by rfl) B.isi PyProof.Rows.boot_isinstance (pa_cons (pv 1) (pa_cons (pe_glob (v := .ref (c 9)) (by rfl) M.g9 rfl) pa_nil))) (pa_cons (pe_callB iE (by rfl) B.isi PyProof.Rows.boot_isinstance (pa_cons (pv 1) (pa_cons (pe_glob (v := .ref (c 10)) (by rfl) M.g10 rfl) pa_nil))) (pa_cons (pe_callB iE (by rfl) B.isi PyProof.Rows.boot_isinstance (pa_cons (pv 1) (pa_cons (pe_glob (v := .ref (c 11)) (by rfl) M.g11 rfl) pa_nil))) pa_nil))))))
        (pss_cons (ps_set (i := 2) sc_l_error_of.nd rfl (.inl rfl) (pe_op op_cat (pv 2) (pe_lst (pa_cons (pe_callB iE (by rfl) B.isi PyProof.Rows.boot_isinstance (pa_cons (pv 1) (pa_cons (pe_glob (v := .ref (c 12)) (by rfl) M.g12 rfl) pa_nil))) (pa_cons (pe_callB iE (by rfl) B.isi PyProof.Rows.boot_isinstance (pa_cons (pv 1) (pa_cons (pe_glob (v := .ref (c 13)) (by rfl) M.g13 rfl) pa_nil))) (pa_cons (pe_callB iE (by rfl) B.isi PyProof.Rows.boot_isinstance (pa_cons (pv 1) (pa_cons (pe_glob (v := .ref (c 14)) (by rfl) M.g14 rfl) pa_nil))) pa_nil))))))
        (pss_cons (ps_if (PW.pt (pw_or (pt_cmpR op_ne (pe_bm PySem.F.plainAttrs_list PySem.F.slot_list_count PySem.F.type_list_count (mt_countD hu) (pv 2) (pa_cons pe_bl pa_nil)) pe_int (nomark _)) (pw_or1 (pt_not (pt_val (pe_callB iE (by rfl) B.isi PyProof.Rows.boot_isinstance (pa_cons (pv 1) (pa_cons (pe_bltn (v := .ty "ValueError") (by rfl) M.gv (by decide +kernel) rfl) pa_nil)))))))) (pss_one (ps_ret (pe_tup (pa_cons pe_str (pa_cons pe_int pa_nil))))) pss_nil)
        (pss_cons (ps_set (i := 3) sc_l_error_of.nd rfl (.inl rfl) (pe_lst (pa_cons pe_str (pa_cons pe_str (pa_cons pe_str (pa_cons pe_str (pa_cons pe_str (pa_cons pe_str (pa_cons pe_str (pa_cons pe_str (pa_cons pe_str (pa_cons pe_str pa_nil))))))))))))
        (pss_cons (ps_set (i := 4) sc_l_error_of.nd rfl (.inl rfl) (pe_ix ix_list (pe_op op_cat (pv 3) (pe_lst (pa_cons pe_str (pa_cons pe_str (pa_cons pe_str (pa_cons pe_str (pa_cons pe_str pa_nil))))))) (pe_bm PySem.F.plainAttrs_list PySem.F.slot_list_index PySem.F.type_list_index mt_index (pv 2) (pa_cons pe_bl pa_nil)) (fun _ _ => rfl)))
        (pss_cons (ps_if (pt_cmpR op_eq (pv 4) pe_str (nomark _)) (pss_one (ps_ret (pe_tup (pa_cons (pv 4) (pa_cons (pe_tup (pa_cons (Pp _ _) (pa_cons (Pi _ _) pa_nil))) pa_nil))))) pss_nil)
        (pss_cons (ps_if (pt_cmpR op_eq (pv 4) pe_str (nomark _)) (pss_one (ps_ret (pe_tup (pa_cons (pv 4) (pa_cons (Pl _ _) pa_nil))))) pss_nil)
        (pss_one (ps_ret (pe_tup (pa_cons (pv 4) (pa_cons (pe_ifExp (pt_cmpR op_in_seq (pv 4) (pe_lst (pa_cons pe_str (pa_cons pe_str pa_nil))) rfl) (Pc _ _) pe_int) pa_nil))))))))))))))) pins s' _ H' Dn I' ?_
    refine ⟨_, rfl, .ref (c 0), .ref (c 0), _, rfl, (fun _ r => r), e15.is 0 (by decide), (dk _ (.refl _)), _, rfl, .ref (c 1), .ref (c 1), _, rfl, (fun _ r => r), e15.is 1 (by decide), (dk _ (.refl _)), _, rfl, .ref (c 2), .ref (c 2), _, rfl, (fun _ r => r), e15.is 2 (by decide), (dk _ (.refl _)), (by show 3 ≤ sizeLine; decide), fun l0 n0 => ?_⟩
    have hk0 : (upd H' l0 (.lst [.bl (decide (0 = i)), .bl (decide (1 = i)), .bl (decide (2 = i))])) l0 = some (.lst [.bl (decide (0 = i)), .bl (decide (1 = i)), .bl (decide (2 = i))]) := upd_same
    have sm0 := same_upd (o := HO.lst [.bl (decide (0 = i)), .bl (decide (1 = i)), .bl (decide (2 = i))]) n0
    generalize (upd H' l0 (.lst [.bl (decide (0 = i)), .bl (decide (1 = i)), .bl (decide (2 = i))])) = H0 at hk0 sm0
    refine ⟨_, rfl, _, rfl, .ref (c 3), .ref (c 3), _, rfl, (fun _ r => r), e15.is 3 (by decide), (dk _ sm0), _, rfl, .ref (c 4), .ref (c 4), _, rfl, (fun _ r => r), e15.is 4 (by decide), (dk _ sm0), _, rfl, .ref (c 5), .ref (c 5), _, rfl, (fun _ r => r), e15.is 5 (by decide), (dk _ sm0), (by show 3 ≤ sizeLine; decide), fun b1 nb1 => ?_⟩
    obtain ⟨L1, eL1⟩ : ∃ L : List V, L = [.bl (decide (0 = i)), .bl (decide (1 = i)), .bl (decide (2 = i))] ++ [.bl (decide (3 = i)), .bl (decide (4 = i)), .bl (decide (5 = i))] := ⟨_, rfl⟩
    have sb1 := same_upd (o := HO.lst [.bl (decide (3 = i)), .bl (decide (4 = i)), .bl (decide (5 = i))]) nb1
    refine ⟨l0, b1, _, _, rfl, rfl, sb1 _ _ hk0, upd_same, (by show 3 + 3 ≤ sizeLine; decide), fun l1 n1 => ?_⟩
    rw [← eL1]
    have sm1 := sm0.trans (sb1.trans (same_upd (o := HO.lst L1) n1))
    have hk1 : (upd (upd H0 b1 (.lst [.bl (decide (3 = i)), .bl (decide (4 = i)), .bl (decide (5 = i))])) l1 (.lst L1)) l1 = some (.lst L1) := upd_same
    generalize (upd (upd H0 b1 (.lst [.bl (decide (3 = i)), .bl (decide (4 = i)), .bl (decide (5 = i))])) l1 (.lst L1)) = H1 at hk1 sm1
    refine ⟨_, rfl, _, rfl, .ref (c 6), .ref (c 6), _, rfl, (fun _ r => r), e15.is 6 (by decide), (dk _ sm1), _, rfl, .ref (c 7), .ref (c 7), _, rfl, (fun _ r => r), e15.is 7 (by decide), (dk _ sm1), _, rfl, .ref (c 8), .ref (c 8), _, rfl, (fun _ r => r), e15.is 8 (by decide), (dk _ sm1), (by show 3 ≤ sizeLine; decide), fun b2 nb2 => ?_⟩
    obtain ⟨L2, eL2⟩ : ∃ L : List V, L = L1 ++ [.bl (decide (6 = i)), .bl (decide (7 = i)), .bl (decide (8 = i))] := ⟨_, rfl⟩
    have sb2 := same_upd (o := HO.lst [.bl (decide (6 = i)), .bl (decide (7 = i)), .bl (decide (8 = i))]) nb2
    refine ⟨l1, b2, _, _, rfl, rfl, sb2 _ _ hk1, upd_same, (by rw [eL1]; show 6 + 3 ≤ sizeLine; decide), fun l2 n2 => ?_⟩
    rw [← eL2]
    have sm2 := sm1.trans (sb2.trans (same_upd (o := HO.lst L2) n2))
    have hk2 : (upd (upd H1 b2 (.lst [.bl (decide (6 = i)), .bl (decide (7 = i)), .bl (decide (8 = i))])) l2 (.lst L2)) l2 = some (.lst L2) := upd_same
    generalize (upd (upd H1 b2 (.lst [.bl (decide (6 = i)), .bl (decide (7 = i)), .bl (decide (8 = i))])) l2 (.lst L2)) = H2 at hk2 sm2
    refine ⟨_, rfl, _, rfl, .ref (c 9), .ref (c 9), _, rfl, (fun _ r => r), e15.is 9 (by decide), (dk _ sm2), _, rfl, .ref (c 10), .ref (c 10), _, rfl, (fun _ r => r), e15.is 10 (by decide), (dk _ sm2), _, rfl, .ref (c 11), .ref (c 11), _, rfl, (fun _ r => r), e15.is 11 (by decide), (dk _ sm2), (by show 3 ≤ sizeLine; decide), fun b3 nb3 => ?_⟩
    obtain ⟨L3, eL3⟩ : ∃ L : List V, L = L2 ++ [.bl (decide (9 = i)), .bl (decide (10 = i)), .bl (decide (11 = i))] := ⟨_, rfl⟩
    have sb3 := same_upd (o := HO.lst [.bl (decide (9 = i)), .bl (decide (10 = i)), .bl (decide (11 = i))]) nb3
    refine ⟨l2, b3, _, _, rfl, rfl, sb3 _ _ hk2, upd_same, (by rw [eL2, eL1]; show 9 + 3 ≤ sizeLine; decide), fun l3 n3 => ?_⟩
    rw [← eL3]
    have sm3 := sm2.trans (sb3.trans (same_upd (o := HO.lst L3) n3))
    have hk3 : (upd (upd H2 b3 (.lst [.bl (decide (9 = i)), .bl (decide (10 = i)), .bl (decide (11 = i))])) l3 (.lst L3)) l3 = some (.lst L3) := upd_same
    generalize (upd (upd H2 b3 (.lst [.bl (decide (9 = i)), .bl (decide (10 = i)), .bl (decide (11 = i))])) l3 (.lst L3)) = H3 at hk3 sm3
    refine ⟨_, rfl, _, rfl, .ref (c 12), .ref (c 12), _, rfl, (fun _ r => r), e15.is 12 (by decide), (dk _ sm3), _, rfl, .ref (c 13), .ref (c 13), _, rfl, (fun _ r => r), e15.is 13 (by decide), (dk _ sm3), _, rfl, .ref (c 14), .ref (c 14), _, rfl, (fun _ r => r), e15.is 14 (by decide), (dk _ sm3), (by show 3 ≤ sizeLine; decide), fun b4 nb4 => ?_⟩
    obtain ⟨L4, eL4⟩ : ∃ L : List V, L = L3 ++ [.bl (decide (12 = i)), .bl (decide (13 = i)), .bl (decide (14 = i))] := ⟨_, rfl⟩
    have sb4 := same_upd (o := HO.lst [.bl (decide (12 = i)), .bl (decide (13 = i)), .bl (decide (14 = i))]) nb4
    refine ⟨l3, b4, _, _, rfl, rfl, sb4 _ _ hk3, upd_same, (by rw [eL3, eL2, eL1]; show 12 + 3 ≤ sizeLine; decide), fun l4 n4 => ?_⟩
    rw [← eL4]
    have sm4 := sm3.trans (sb4.trans (same_upd (o := HO.lst L4) n4))
    have hk4 : (upd (upd H3 b4 (.lst [.bl (decide (12 = i)), .bl (decide (13 = i)), .bl (decide (14 = i))])) l4 (.lst L4)) l4 = some (.lst L4) := upd_same
    generalize (upd (upd H3 b4 (.lst [.bl (decide (12 = i)), .bl (decide (13 = i)), .bl (decide (14 = i))])) l4 (.lst L4)) = H4 at hk4 sm4
    have hk : H4 l4 = some (.lst (kindsL i)) := by rw [hk4, eL4, eL3, eL2, eL1]; rfl
    clear hk4 hk3 hk2 hk1 hk0
    refine ⟨_, rfl, .inl ⟨rfl, _, SqL.of hk⟩, l4, _, .bl true, .bool true, _, rfl, rfl, SqL.of hk, kinds_dp i, .bl true, kinds_plain i, rfl, by decide, ?_⟩
    rw [kinds_count i e15.lt]
    refine ⟨rfl, _, rfl, iteF ⟨_, rfl, .ty "ValueError", .type "ValueError", _, rfl, (fun _ r => r), e15.ve, (dk _ sm4), _, rfl, iteF ?_⟩⟩
    refine ⟨(by show 10 ≤ sizeLine; decide), fun m1 nm1 => ?_⟩
    have st1 := same_upd (o := HO.lst ((eNames.take 10).map V.str)) nm1
    refine ⟨_, rfl, (by show 5 ≤ sizeLine; decide), fun m2 nm2 => ?_⟩
    have st2 := same_upd (o := HO.lst ((eNames.drop 10).map V.str)) nm2
    refine ⟨m1, m2, _, _, rfl, rfl, st2 _ _ upd_same, upd_same, (by show 10 + 5 ≤ sizeLine; decide), fun m3 nm3 => ?_⟩
    have st3 := same_upd (o := HO.lst (eNames.map V.str)) nm3
    have hkm := (st1.trans (st2.trans st3)) _ _ hk
    refine ⟨_, rfl, .inl ⟨rfl, _, SqL.of hkm⟩, l4, _, .bl true, i, .bl (decide (i = i)), rfl, rfl, SqL.of hkm, rfl, kinds_flat i, kinds_at e15.lt, by simp [eqV], fun m z hm hz2 => ?_, m3, eNames.map V.str, (i : Nat), _, rfl, rfl, SqL.of upd_same, atI_nat (eName_at e15.lt), ?_⟩
    · rw [kinds_at (by omega)] at hz2
      obtain rfl := Option.some.inj hz2
      rw [decide_eq_false (by omega)]
      rfl
    have sA := sm4.trans (st1.trans (st2.trans st3))
    rcases hq with ⟨rfl, hi, hq⟩ | ⟨rfl, xc, f1, f2, dd, part, n, rfl, hx, hq⟩ | ⟨rfl, xc, f1, dd, n, rfl, hx, hq⟩ | ⟨hi, xc, f1, dd, n, rfl, hx, hq⟩
    · obtain ⟨p1, p2, p3, p4⟩ := eName_plain i hi
      refine ⟨_, rfl, rfl, _, rfl, ?_⟩
      rw [decide_eq_false fun z => p1 (V.str.inj z)]
      refine iteF ⟨_, rfl, rfl, _, rfl, ?_⟩
      rw [decide_eq_false fun z => p2 (V.str.inj z)]
      refine iteF ⟨_, rfl, _, rfl, (by show 2 ≤ sizeLine; decide), fun m4 nm4 => ⟨m4, _, rfl, .inl (SqL.of upd_same), rfl, rfl, _, rfl, ?_⟩⟩
      have ev : inV (.str (eName i)) [.str "code", .str "operation"] = false := by
        unfold inV
        rw [List.any_cons, List.any_cons, List.any_nil]
        show ((("code" : Str) == eName i) || ((("operation" : Str) == eName i) || false)) = false
        rw [beq_eq_false_iff_ne.mpr (Ne.symm p3), beq_eq_false_iff_ne.mpr (Ne.symm p4)]
        rfl
      rw [ev]
      have st4 := same_upd (o := HO.lst [.str "code", .str "operation"]) nm4
      exact iteF ⟨(by show 2 ≤ sizeLine; decide), fun u nu => hq u _ (sA.trans (st4.trans (same_upd nu))) upd_same⟩
    · obtain rfl := ep xc f1
      obtain rfl := ei xc f2
      have hx9 := sA _ _ hx
      refine ⟨_, rfl, rfl, true, congrArg V.bl (decide_eq_true rfl), iteT ?_⟩
      refine ⟨_, rfl, _, rfl, rfl, rfl, dd, _, _, rfl, hx9, rfl, _, rfl, rfl, rfl, dd, _, _, rfl, hx9, rfl, (by show 2 ≤ sizeLine; decide), fun v nv => ⟨(by show 2 ≤ sizeLine; decide), fun u nu => ?_⟩⟩
      exact hq u v _ (sA.trans ((same_upd nv).trans (same_upd nu))) (same_upd nu _ _ upd_same) upd_same
    · obtain rfl := el xc f1
      have hx9 := sA _ _ hx
      refine ⟨_, rfl, rfl, false, congrArg V.bl (decide_eq_false (by decide +kernel)), iteF ?_⟩
      refine ⟨_, rfl, rfl, true, congrArg V.bl (decide_eq_true rfl), iteT ?_⟩
      refine ⟨_, rfl, _, rfl, rfl, rfl, dd, _, _, rfl, hx9, rfl, (by show 2 ≤ sizeLine; decide), fun u nu => ?_⟩
      exact hq u _ (sA.trans (same_upd nu)) upd_same
    · obtain rfl := ec xc f1
      have hx9 := sA _ _ hx
      have q1 : eName i ≠ "net" := by rcases hi with rfl | rfl <;> decide +kernel
      have q2 : eName i ≠ "text" := by rcases hi with rfl | rfl <;> decide +kernel
      refine ⟨_, rfl, rfl, false, congrArg V.bl (decide_eq_false fun z => q1 (V.str.inj z)), iteF ?_⟩
      refine ⟨_, rfl, rfl, false, congrArg V.bl (decide_eq_false fun z => q2 (V.str.inj z)), iteF ?_⟩
      refine ⟨_, rfl, _, rfl, (by show 2 ≤ sizeLine; decide), fun m4 nm4 => ⟨m4, _, rfl, .inl (SqL.of upd_same), rfl, rfl, _, rfl, ?_⟩⟩
      have st4 := same_upd (o := HO.lst [.str "code", .str "operation"]) nm4
      have ev : inV (.str (eName i)) [.str "code", .str "operation"] = true := by rcases hi with rfl | rfl <;> decide +kernel
      rw [ev]
      refine iteT ⟨_, rfl, rfl, rfl, dd, _, _, rfl, st4 _ _ hx9, rfl, (by show 2 ≤ sizeLine; decide), fun u nu => ?_⟩
      exact hq u _ (sA.trans (st4.trans (same_upd nu))) upd_same
  · refine ⟨fun cls d H' => ErrE X.K CP c cls d H' Q, fun cls d σ' H' hx => ?_, rfl, h⟩
    obtain ⟨D, i, rfl, e15, hq⟩ := hx
    exact ⟨true, e15.ex, fun _ a _ => ⟨⟨D, i, rfl, e15, hq⟩, _, rfl⟩, fun z => by cases z⟩
theorem err_givesE {q : Str} {g CP : Addr} {cdg : Value} {c : Nat → Addr} {k : Nat} (M : ErrM X.mg CP c) (B : Blt X.mg) (hr : Room (k + 2) X.A) :
    GivesTo X N_l_error_of "_law_error_of" (defScope s_l_error_of) g cdg (defBody s_l_error_of) "_law_call" q (TTerrE X.K CP c) := by
  intro f c' s H Q tl act hc h
  exact err_coreE M B hr (tl := fun E HZ Q' => HZ c' = some (CodeO c' q) ∧ tl E HZ Q') (fun W pn xe E p1 p2 tk hW => act W pn xe E p1 p2 tk hW) ⟨hc, h⟩
end
/-! ### values of which it is known what kind they are of -/
inductive KnT (H : Hp) : V → Prop where
  | int {i : Int} : KnT H (.int i)
  | non : KnT H .non
  | bl {b : Bool} : KnT H (.bl b)
  | str {s : Str} : KnT H (.str s)
  | tup {a : Addr} {xs : List V} (h : H a = some (.tup xs)) : KnT H (.ref a)
theorem KnT.keep {H H' : Hp} {v : V} (h : KnT H v) (k : TupKeep H H') : KnT H' v := by
  cases h with
  | int => exact .int
  | non => exact .non
  | bl => exact .bl
  | str => exact .str
  | tup h => exact .tup (k _ _ h)
theorem KnT.kn {K : PySem.W.Frag} {H : Hp} {v : V} (h : KnT H v) : Kn K H v := by
  cases h with
  | int => exact .int
  | non => exact .inr ⟨.inr ⟨"NoneType", .base .non, by decide +kernel⟩, fun i z => by cases z⟩
  | bl => exact .inr ⟨.inl ⟨_, rfl⟩, fun i z => by cases z⟩
  | str => exact .inr ⟨.inr ⟨"str", .base (.str _), by decide +kernel⟩, fun i z => by cases z⟩
  | tup h => exact .inr ⟨.inr ⟨"tuple", .base (.tup h), by decide +kernel⟩, fun i z => by cases z⟩
theorem wN {i lo hi : Int} (c : hi < i) : withinB (.int i) lo hi = false := by
  show (decide (lo ≤ i) && decide (i ≤ hi)) = false
  rw [decide_eq_false (show ¬ i ≤ hi by omega), Bool.and_false]
theorem wZ {i lo hi : Int} (c : i < lo) : withinB (.int i) lo hi = false := by
  show (decide (lo ≤ i) && decide (i ≤ hi)) = false
  rw [decide_eq_false (show ¬ lo ≤ i by omega), Bool.false_and]
/-- a value that is no list -/
theorem KnT.noList {K : PySem.W.Frag} {H : Hp} {v : V} (n : KnT H v) : ∃ t, TyX K H v (.type t) ∧ kitB t "list" = some false := by
  cases n with
  | int => exact ⟨"int", .base (.int _), by decide +kernel⟩
  | non => exact ⟨"NoneType", .base .non, by decide +kernel⟩
  | bl => exact ⟨"bool", .base (.bl _), by decide +kernel⟩
  | str => exact ⟨"str", .base (.str _), by decide +kernel⟩
  | tup h => exact ⟨"tuple", .base (.tup h), by decide +kernel⟩
/-! ### decode refuses a code -/
def spByteE (K : PySem.W.Frag) (D : Addr) : Sp := fun vs H Q E => ∃ (a : Addr) (xs : List V) (k lo hi : Nat), vs = [.ref a, .int k, .int lo, .int hi] ∧ H a = some (.lst xs) ∧ (∀ x ∈ xs, KnT H x) ∧ k ≤ 900 ∧ (∀ n : Nat, rdB xs k lo hi = some n → Q (.int n) H) ∧
  (rdB xs k lo hi = none → ∀ d H', Same H H' → H' d = some (.xd (oneFs "place" k)) → E (.ref D) (some d) H')
def spROrdE (K : PySem.W.Frag) (D : Addr) : Sp := fun vs H Q E => ∃ (a : Addr) (xs : List V) (k p h : Nat), vs = [.ref a, .int k, .int p, .int h] ∧ H a = some (.lst xs) ∧ (∀ x ∈ xs, KnT H x) ∧ k ≤ 800 ∧ 1 ≤ p ∧ 1 ≤ h ∧
  (∀ o, ordF xs k p h = .inr o → ∀ H' t, Same H H' → H t = none → H' t = some (.tup o.vs) → Q (.ref t) H') ∧ (∀ i, ordF xs k p h = .inl i → ∀ d H', Same H H' → H' d = some (.xd (oneFs "place" i)) → E (.ref D) (some d) H')
/-- a code, or what is none, and the place where it is refused -/
def BadCode (K : PySem.W.Frag) (H : Hp) (v : V) (i : Nat) : Prop := (i = 0 ∧ ∃ t, TyX K H v (.type t) ∧ kitB t "list" = some false) ∨ ∃ (a : Addr) (xs : List V), v = .ref a ∧ H a = some (.lst xs) ∧ (∀ x ∈ xs, KnT H x) ∧ xs.length ≤ 900 ∧ decF xs = some i
def spDecodeX (K : PySem.W.Frag) (D : Addr) : Sp := fun vs H _ E => ∃ (v : V) (i : Nat), vs = [v] ∧ BadCode K H v i ∧ ∀ d H', Same H H' → H' d = some (.xd (oneFs "place" i)) → E (.ref D) (some d) H'
section
variable {P : Program} {w : World} {K : PySem.W.Frag} {mg : Str → Option Value} {base : Heap}
theorem ok_byteE {f D : Addr} {ps : List Str} {fd : FuncData} (F : Fun K "read_byte" "read_byte" s_read_byte f fd) (B : Blt mg) (NE : OneErr P w K mg base "InvalidCode" "place" ps D) (DW : Df P w K mg base "is_within" 2 P_is_within (spWithin K)) : FnOk P w K mg base (L2.CX P w) 4 f fd P_read_byte (spByteE K D) := by
  obtain ⟨fW, fdW, gW, kW, bW, GW⟩ := DW
  refine F.okX sc_read_byte (fun vs H Q E h => ?_) (fun cdv A outer s H vs Q E hr h => ?_)
  · obtain ⟨a, xs, k, lo, hi, rfl, _⟩ := h
    rfl
  · obtain ⟨a, xs, k, lo, hi, rfl, ha, kn, k9, q1, q2⟩ := h
    have hr2 : Room 2 _ := hr.mono (by decide)
    refine ⟨_, pss_cons (ps_if (PW.pt (pw_or (pt_cmpR op_ge (pv 1) (pe_callB call_len_seq (by rfl) B.len PySem.boot_len (pa_cons (pv 0) pa_nil)) (nomark _))
        (pw_or1 (pt_not (pt_val (pe_call GW hr2 (by rfl) gW kW bW .nil pass0 (pa_cons (pe_ix ix_list (pv 0) (pv 1) (fun _ _ => rfl)) (pa_cons (pv 2) (pa_cons (pv 3) pa_nil)))))))))
        (pss_one (ps_raise rfl (takes_of rfl rfl rfl rfl) (pmk_oneerr NE hr (by rfl) (pa_cons (pv 1) pa_nil)))) pss_nil)
      (pss_one (ps_ret (pe_ix ix_list (pv 0) (pv 1) (fun _ _ => rfl)))), ?_⟩
    refine ⟨_, rfl, _, rfl, a, _, rfl, .inl (SqL.of ha), _, _, rfl, rfl, _, rfl, ?_⟩
    by_cases c : xs.length ≤ k
    · rw [decide_eq_true (show ((xs.length : Nat) : Int) ≤ (k : Nat) by omega)]
      refine iteT ⟨_, rfl, k, rfl, by omega, fun d H2 nd hd oth => q2 ?_ d H2 (same_ext nd oth) hd⟩
      unfold rdB
      rw [List.getElem?_eq_none c]
    · rw [decide_eq_false (show ¬ ((xs.length : Nat) : Int) ≤ (k : Nat) by omega)]
      have ek := List.getElem?_eq_getElem (l := xs) (i := k) (by omega)
      generalize xs[k] = x at ek
      have eA := atI_nat (j := k) ek
      refine iteF ⟨_, rfl, _, rfl, a, _, k, _, rfl, rfl, SqL.of ha, eA, _, rfl, _, rfl, x, lo, hi, rfl, (kn x (List.mem_of_getElem? ek)).kn, _, rfl, ?_⟩
      cases e : rdB xs k lo hi with
      | some n =>
        obtain ⟨z1, z2, z3⟩ := rdB_some e
        obtain rfl : V.int (n : Nat) = x := Option.some.inj (z1.symm.trans ek)
        rw [within_nat z2 z3]
        exact iteF ⟨_, rfl, _, rfl, a, _, k, _, rfl, rfl, SqL.of ha, eA, q1 n e⟩
      | none =>
        rcases rdB_none e with z | ⟨y, z1, z2⟩
        · exact absurd z c
        · obtain rfl : y = x := Option.some.inj (z1.symm.trans ek)
          rw [z2]
          exact iteT ⟨_, rfl, k, rfl, by omega, fun d H2 nd hd oth => q2 e d H2 (same_ext nd oth) hd⟩
theorem ok_rordE {f fB D : Addr} {ps : List Str} {fd fdB : FuncData} (F : Fun K "read_order" "read_order" s_read_order f fd) (NE : OneErr P w K mg base "InvalidCode" "place" ps D) (hD : ∃ t, mg "LONGEST_DELAY" = some (.int 9 t)) (gB : mg "read_byte" = some (.ref fB)) (kB : PySem.W.keepIn K (.ref fB) = true) (bB : Binds K fdB P_read_byte []) (GB : FnOk P w K mg base (L2.CX P w) 4 fB fdB P_read_byte (spByteE K D)) : FnOk P w K mg base (L2.CX P w) 5 f fd P_read_order (spROrdE K D) := by
  obtain ⟨tk, hD⟩ := hD
  refine F.okX sc_read_order (fun vs H Q E h => ?_) (fun cdv A outer s H vs Q E hr h => ?_)
  · obtain ⟨a, xs, k, p, h, rfl, _⟩ := h
    rfl
  · obtain ⟨a, xs, k, p, h, rfl, ha, kn, k8, p1, h1, q1, q2⟩ := h
    have hr4 : Room 4 _ := hr.mono (by decide)
    have hr3 : Room 3 _ := hr.mono (by decide)
    refine ⟨_, pss_cons (ps_set (i := 4) sc_read_order.nd rfl (.inl rfl) (pe_call (E := E) GB hr4 (by rfl) gB kB bB .nil (passes_call (takes_of rfl rfl rfl rfl) fun _ _ _ _ z => z) (pa_cons (pv 0) (pa_cons (pv 1) (pa_cons pe_int (pa_cons (pe_op op_sub (pv 3) pe_int) pa_nil))))))
      (pss_cons (ps_set (i := 5) sc_read_order.nd rfl (.inl rfl) (pe_call (E := E) GB hr4 (by rfl) gB kB bB .nil (passes_call (takes_of rfl rfl rfl rfl) fun _ _ _ _ z => z) (pa_cons (pv 0) (pa_cons (pe_op op_add (pv 1) pe_int) (pa_cons pe_int (pa_cons (pe_op op_sub (pv 3) pe_int) pa_nil))))))
      (pss_cons (ps_if (pt_cmpR op_eq (pv 5) (pv 4) (nomark _)) (pss_one (ps_raise rfl (takes_of rfl rfl rfl rfl) (pmk_oneerr NE hr3 (by rfl) (pa_cons (pe_op op_add (pv 1) pe_int) pa_nil)))) pss_nil)
      (pss_cons (ps_set (i := 6) sc_read_order.nd rfl (.inl rfl) (pe_call (E := E) GB hr4 (by rfl) gB kB bB .nil (passes_call (takes_of rfl rfl rfl rfl) fun _ _ _ _ z => z) (pa_cons (pv 0) (pa_cons (pe_op op_add (pv 1) pe_int) (pa_cons pe_int (pa_cons (pe_op op_sub (pv 2) pe_int) pa_nil))))))
      (pss_cons (ps_set (i := 7) sc_read_order.nd rfl (.inl rfl) (pe_call (E := E) GB hr4 (by rfl) gB kB bB .nil (passes_call (takes_of rfl rfl rfl rfl) fun _ _ _ _ z => z) (pa_cons (pv 0) (pa_cons (pe_op op_add (pv 1) pe_int) (pa_cons pe_int (pa_cons (pv 2) pa_nil))))))
      (pss_cons (ps_set (i := 8) sc_read_order.nd rfl (.inl rfl) (pe_call (E := E) GB hr4 (by rfl) gB kB bB .nil (passes_call (takes_of rfl rfl rfl rfl) fun _ _ _ _ z => z) (pa_cons (pv 0) (pa_cons (pe_op op_add (pv 1) pe_int) (pa_cons pe_int (pa_cons (pe_glob (v := .int 9) rfl hD ⟨_, rfl⟩) pa_nil))))))
      (pss_one (ps_ret (pe_tup (pa_cons (pv 4) (pa_cons (pv 5) (pa_cons (pv 6) (pa_cons (pv 7) (pa_cons (pv 8) pa_nil))))))))))))), ?_⟩
    have e1 : ((h : Int) - 1) = ((h - 1 : Nat) : Int) := by omega
    have e2 : ((p : Int) - 1) = ((p - 1 : Nat) : Int) := by omega
    unfold ordF at q1 q2
    refine ⟨_, rfl, _, rfl, _, rfl, _, _, rfl, rfl, a, xs, k, 0, h - 1, congrArg (fun z : Int => [V.ref a, V.int (k : Nat), V.int 0, V.int z]) e1, ha, kn, by omega, fun sv es => ?_, fun es => q2 k (by rw [es])⟩
    rw [es] at q1 q2
    refine ⟨_, rfl, _, rfl, _, _, rfl, rfl, _, rfl, _, _, rfl, rfl, a, xs, k + 1, 0, h - 1, congrArg (fun z : Int => [V.ref a, V.int (k + 1 : Nat), V.int 0, V.int z]) e1, ha, kn, by omega, fun tv et => ?_, fun et => q2 (k + 1) (by show (match rdB xs (k + 1) 0 (h - 1) with | none => Sum.inl (k + 1) | some t => _) = _; rw [et])⟩
    have q1 : ∀ o, (match rdB xs (k + 1) 0 (h - 1) with | none => Sum.inl (k + 1) | some t => _) = Sum.inr o → _ := q1
    have q2 : ∀ i, (match rdB xs (k + 1) 0 (h - 1) with | none => Sum.inl (k + 1) | some t => _) = Sum.inl i → _ := q2
    rw [et] at q1 q2
    have q1 : ∀ o, (if tv = sv then Sum.inl (k + 1) else match rdB xs (k + 2) 0 (p - 1) with | none => _ | some f => _) = Sum.inr o → _ := q1
    have q2 : ∀ i, (if tv = sv then Sum.inl (k + 1) else match rdB xs (k + 2) 0 (p - 1) with | none => _ | some f => _) = Sum.inl i → _ := q2
    refine ⟨_, rfl, _, rfl, rfl, _, rfl, ?_⟩
    by_cases c : tv = sv
    · rw [decide_eq_true (show V.int ((tv : Nat) : Int) = V.int ((sv : Nat) : Int) by rw [c])]
      rw [if_pos c] at q2
      exact iteT ⟨_, rfl, _, _, rfl, rfl, k + 1, rfl, by omega, fun d H2 nd hd oth => q2 _ rfl d H2 (same_ext nd oth) hd⟩
    rw [decide_eq_false (show ¬ V.int ((tv : Nat) : Int) = V.int ((sv : Nat) : Int) from fun z => c (by have z2 := V.int.inj z; omega))]
    rw [if_neg c] at q1 q2
    refine iteF ⟨_, rfl, _, rfl, _, _, rfl, rfl, _, rfl, _, _, rfl, rfl, a, xs, k + 2, 0, p - 1, congrArg (fun z : Int => [V.ref a, V.int (k + 2 : Nat), V.int 0, V.int z]) e2, ha, kn, by omega, fun fv ef => ?_, fun ef => q2 (k + 2) (by rw [ef])⟩
    rw [ef] at q1 q2
    have q1 : ∀ o, (match rdB xs (k + 3) 1 p with | none => Sum.inl (k + 3) | some t => _) = Sum.inr o → _ := q1
    have q2 : ∀ i, (match rdB xs (k + 3) 1 p with | none => Sum.inl (k + 3) | some t => _) = Sum.inl i → _ := q2
    refine ⟨_, rfl, _, rfl, _, _, rfl, rfl, _, rfl, a, xs, k + 3, 1, p, rfl, ha, kn, by omega, fun nv en => ?_, fun en => q2 (k + 3) (by rw [en])⟩
    rw [en] at q1 q2
    have q1 : ∀ o, (match rdB xs (k + 4) 1 9 with | none => Sum.inl (k + 4) | some t => _) = Sum.inr o → _ := q1
    have q2 : ∀ i, (match rdB xs (k + 4) 1 9 with | none => Sum.inl (k + 4) | some t => _) = Sum.inl i → _ := q2
    refine ⟨_, rfl, _, rfl, _, _, rfl, rfl, a, xs, k + 4, 1, 9, rfl, ha, kn, by omega, fun dv ed => ?_, fun ed => q2 (k + 4) (by rw [ed])⟩
    rw [ed] at q1
    refine ⟨_, rfl, _, rfl, _, rfl, _, rfl, _, rfl, (by show 5 ≤ sizeLine; decide), fun t nt => ?_⟩
    exact q1 _ rfl _ t (same_upd nt) nt upd_same
theorem ite_tC' {c : Bool} {m n : Nat} {ρ : L2.St} {H : Hp} {Q : VK} (h : Q (.int ((if c = true then m else n : Nat) : Int)) H) : (if c = true then tC (.int (m : Nat)) ρ H Q else tC (.int (n : Nat)) ρ H Q) := by
  cases c
  · exact h
  · exact h
theorem ordsF_step {xs : List V} {p h m k : Nat} {o : Od} (e : ordF xs k p h = .inr o) : ordsF xs p h (m + 1) k = ordsF xs p h m (k + 5) := by
  show (match ordF xs k p h with | .inl i => some i | .inr _ => ordsF xs p h m (k + 5)) = _
  rw [e]
theorem ordsF_fail {xs : List V} {p h m k i : Nat} (e : ordF xs k p h = .inl i) : ordsF xs p h (m + 1) k = some i := by
  show (match ordF xs k p h with | .inl i => some i | .inr _ => ordsF xs p h m (k + 5)) = _
  rw [e]
theorem take_nints {xs : List V} {n : Nat} (h : ∀ j, j < n → ∃ m : Nat, xs[j]? = some (V.int (m : Nat))) : xs.take n = nints ((xs.take n).map natV) := by
  refine List.ext_getElem? fun j => ?_
  unfold nints
  rw [List.getElem?_map, List.getElem?_map]
  cases e : (xs.take n)[j]? with
  | none => rfl
  | some x =>
    rw [List.getElem?_take] at e
    by_cases c : j < n
    · rw [if_pos c] at e
      obtain ⟨m, hm⟩ := h j c
      obtain rfl := Option.some.inj (hm.symm.trans e)
      rfl
    · rw [if_neg c] at e
      cases e
set_option maxHeartbeats 0 in
theorem ok_decodeX {f fB fO D : Addr} {ps : List Str} {fd fdB fdO : FuncData} (F : Fun K "decode" "decode" s_decode f fd) (B : Blt mg) (NE : OneErr P w K mg base "InvalidCode" "place" ps D)
    (hF : ∃ t, mg "FIRST_BYTE" = some (.int 78 t)) (hP : ∃ t, mg "LONGEST_PERIOD" = some (.int 30 t)) (hH : ∃ t, mg "MOST_HOUSES" = some (.int 10 t)) (hM : ∃ t, mg "MOST_ORDERS" = some (.int 20 t)) (hHL : ∃ t, mg "HEAD_LENGTH" = some (.int 4 t)) (hOL : ∃ t, mg "ORDER_LENGTH" = some (.int 5 t))
    (gB : mg "read_byte" = some (.ref fB)) (kB : PySem.W.keepIn K (.ref fB) = true) (bB : Binds K fdB P_read_byte []) (GB : FnOk P w K mg base (L2.CX P w) 4 fB fdB P_read_byte (spByteE K D))
    (gO : mg "read_order" = some (.ref fO)) (kO : PySem.W.keepIn K (.ref fO) = true) (bO : Binds K fdO P_read_order []) (GO : FnOk P w K mg base (L2.CX P w) 5 fO fdO P_read_order (spROrdE K D)) (DS : Df P w K mg base "checksum" 1 P_checksum (spCheckS K)) : FnOk P w K mg base (L2.CX P w) 6 f fd P_decode (spDecodeX K D) := by
  obtain ⟨fS, fdS, gS, kS, bS, GS⟩ := DS
  obtain ⟨tF, hF⟩ := hF
  obtain ⟨tP, hP⟩ := hP
  obtain ⟨tH, hH⟩ := hH
  obtain ⟨tM, hM⟩ := hM
  obtain ⟨tL, hHL⟩ := hHL
  obtain ⟨tO, hOL⟩ := hOL
  refine F.okX sc_decode (fun vs H Q E h => ?_) (fun cdv A outer s H vs Q E hr h => ?_)
  · obtain ⟨v, i, rfl, _⟩ := h
    rfl
  · obtain ⟨v, i, rfl, hb, q⟩ := h
    have hr3 : Room 3 _ := hr.mono (by decide)
    have hr4 : Room 4 _ := hr.mono (by decide)
    have hr1 : Room 1 _ := hr.mono (by decide)
    refine ⟨_, pss_cons (ps_if (pt_not (pt_val (pe_callB call_isi (by rfl) B.isi PyProof.Rows.boot_isinstance (pa_cons (pv 0) (pa_cons (pe_bltn (v := .ty "list") (by rfl) B.list (by decide +kernel) rfl) pa_nil))))) (pss_one (ps_raise rfl (takes_of rfl rfl rfl rfl) (pmk_oneerr NE hr3 (by rfl) (pa_cons pe_int pa_nil)))) pss_nil)
      (pss_cons (ps_expr (pe_call (E := E) GB hr4 (by rfl) gB kB bB .nil (passes_call (takes_of rfl rfl rfl rfl) fun _ _ _ _ z => z) (pa_cons (pv 0) (pa_cons pe_int (pa_cons (pe_glob (v := .int 78) rfl hF ⟨_, rfl⟩) (pa_cons (pe_glob (v := .int 78) rfl hF ⟨_, rfl⟩) pa_nil))))))
      (pss_cons (ps_set (i := 1) sc_decode.nd rfl (.inr rfl) (pe_call (E := E) GB hr4 (by rfl) gB kB bB .nil (passes_call (takes_of rfl rfl rfl rfl) fun _ _ _ _ z => z) (pa_cons (pv 0) (pa_cons pe_int (pa_cons pe_int (pa_cons (pe_glob (v := .int 30) rfl hP ⟨_, rfl⟩) pa_nil))))))
      (pss_cons (ps_set (i := 2) sc_decode.nd rfl (.inr rfl) (pe_call (E := E) GB hr4 (by rfl) gB kB bB .nil (passes_call (takes_of rfl rfl rfl rfl) fun _ _ _ _ z => z) (pa_cons (pv 0) (pa_cons pe_int (pa_cons pe_int (pa_cons (pe_glob (v := .int 10) rfl hH ⟨_, rfl⟩) pa_nil))))))
      (pss_cons (ps_set (i := 3) sc_decode.nd rfl (.inl rfl) (pe_call (E := E) GB hr4 (by rfl) gB kB bB .nil (passes_call (takes_of rfl rfl rfl rfl) fun _ _ _ _ z => z) (pa_cons (pv 0) (pa_cons pe_int (pa_cons pe_int (pa_cons (pe_ifExp (pt_cmpR op_gt (pv 2) pe_int (nomark _)) (pe_glob (v := .int 20) rfl hM ⟨_, rfl⟩) pe_int) pa_nil))))))
      (pss_cons (ps_set (i := 4) sc_decode.nd rfl (.inl rfl) (pe_op op_add (pe_glob (v := .int 4) rfl hHL ⟨_, rfl⟩) (pe_op op_mul (pv 3) (pe_glob (v := .int 5) rfl hOL ⟨_, rfl⟩))))
      (pss_cons (ps_setLcX (i := 5) (own := [("place", 7)]) (g := gName 7) (tt := tYes) (te := fun E => tCall (spROrdE K D) [] E (tCons (tVar 0) (tCons (tVar 7) (tCons (tVar 1) (tCons (tVar 2) tNil))))) (takes_of rfl rfl rfl rfl) rfl rfl (by rfl) sc_decode.nd rfl rfl (by rfl)
          (pi_range3 (by rfl) B.range (pa_cons (pe_glob (v := .int 4) rfl hHL ⟨_, rfl⟩) (pa_cons (pv 4) (pa_cons (pe_glob (v := .int 5) rfl hOL ⟨_, rfl⟩) pa_nil))))
          (blkOk_by (N := N_decode) (sc := defScope s_decode) (by decide +kernel)) (fun _ _ _ _ _ _ => pg_name (i := 7) sc_decode.nd rfl (.inl rfl)) (fun _ _ _ _ _ _ => pts_nil)
          (fun E _ _ _ _ _ _ hx => pe_call (E := E) GO hr (by rfl) gO kO bO .nil hx (pa_cons (pv 0) (pa_cons (pv 7) (pa_cons (pv 1) (pa_cons (pv 2) pa_nil))))))
      (pss_cons (ps_set (i := 6) sc_decode.nd rfl (.inl rfl) (pe_call GS hr1 (by rfl) gS kS bS .nil pass0 (pa_cons (pe_slice sl_list (pv 0) po_none (po_some (pv 4))) pa_nil)))
      (pss_cons (ps_expr (pe_call (E := E) GB hr4 (by rfl) gB kB bB .nil (passes_call (takes_of rfl rfl rfl rfl) fun _ _ _ _ z => z) (pa_cons (pv 0) (pa_cons (pv 4) (pa_cons (pv 6) (pa_cons (pv 6) pa_nil))))))
      (pss_cons (ps_if (pt_cmpR op_gt (pe_callB call_len_seq (by rfl) B.len PySem.boot_len (pa_cons (pv 0) pa_nil)) (pe_op op_add (pv 4) pe_int) (nomark _)) (pss_one (ps_raise rfl (takes_of rfl rfl rfl rfl) (pmk_oneerr NE hr3 (by rfl) (pa_cons (pe_op op_add (pv 4) pe_int) pa_nil)))) pss_nil)
      (pss_one ps_never)))))))))), ?_⟩
    rcases hb with ⟨rfl, t, ty, kt⟩ | ⟨a, xs, rfl, ha, kn, len, dec⟩
    · refine ⟨_, rfl, _, _, _, _, false, rfl, .ty "list", ty, kit_ty kt, _, rfl, iteT ?_⟩
      exact ⟨0, rfl, by decide, fun d H2 nd hd oth => q d H2 (same_ext nd oth) hd⟩
    refine ⟨_, rfl, _, _, _, _, true, rfl, .ty "list", .base (.lst ha), kit_ty (by decide +kernel), _, rfl, iteF ?_⟩
    unfold decF at dec
    refine ⟨_, rfl, a, xs, 0, 78, 78, rfl, ha, kn, by decide, fun n0 e0 => ?_, fun e0 => by rw [e0] at dec; cases dec; exact q⟩
    rw [e0] at dec
    have dec : (match rdB xs 1 1 30 with | none => some 1 | some p => _) = some i := dec
    refine ⟨_, rfl, a, xs, 1, 1, 30, rfl, ha, kn, by decide, fun p ep => ?_, fun e1 => by rw [e1] at dec; cases dec; exact q⟩
    rw [ep] at dec
    have dec : (match rdB xs 2 1 10 with | none => some 2 | some p => _) = some i := dec
    refine ⟨_, rfl, a, xs, 2, 1, 10, rfl, ha, kn, by decide, fun h eh => ?_, fun e1 => by rw [e1] at dec; cases dec; exact q⟩
    rw [eh] at dec
    have dec : (match rdB xs 3 0 (if h > 1 then 20 else 0) with | none => some 3 | some p => _) = some i := dec
    have em : (if decide ((1 : Int) < (h : Nat)) = true then 20 else 0 : Nat) = (if h > 1 then 20 else 0 : Nat) := by
      by_cases c : h > 1
      · rw [if_pos c, if_pos (decide_eq_true (by omega))]
      · rw [if_neg c, decide_eq_false (by omega)]
        rfl
    refine ⟨_, rfl, _, rfl, _, _, rfl, rfl, _, rfl, ite_tC' (m := 20) (n := 0) ?_⟩
    rw [em]
    refine ⟨a, xs, 3, 0, _, rfl, ha, kn, by decide, fun n en => ?_, fun e1 => by rw [e1] at dec; cases dec; exact q⟩
    rw [en] at dec
    have dec : (match ordsF xs p h n 4 with | some i => some i | none => _) = some i := dec
    obtain ⟨x0, _, _⟩ := rdB_some e0
    obtain ⟨x1, p1, p30⟩ := rdB_some ep
    obtain ⟨x2, h1, h10⟩ := rdB_some eh
    obtain ⟨x3, _, nm⟩ := rdB_some en
    have n20 : n ≤ 20 := by
      split at nm <;> omega
    have eM : ((n : Nat) : Int) * 5 = ((5 * n : Nat) : Int) := by omega
    refine ⟨_, rfl, _, _, rfl, rfl, .inr ⟨by decide, by decide⟩, 4, ((5 * n : Nat) : Int), rfl, congrArg V.int eM, ?_⟩
    unfold tLcX
    refine ⟨_, rfl, 4, ((4 + 5 * n : Nat) : Int), 5, n, rfl, rngC5 (by omega), fun L nL => ?_⟩
    refine lc_steps (fun j H' => Same H H' ∧ (∃ ts, H' L = some (.lst ts) ∧ ts.length = j) ∧ j ≤ n ∧ ordsF xs p h (n - j) (4 + 5 * j) = ordsF xs p h n 4 ∧ ∀ k, k < 4 + 5 * j → ∃ m : Nat, xs[k]? = some (V.int (m : Nat))) ⟨same_upd nL, ⟨[], upd_same, rfl⟩, Nat.zero_le _, rfl, fun k hk => ?_⟩ ?_ ?_
    · match k, hk with
      | 0, _ => exact ⟨_, x0⟩
      | 1, _ => exact ⟨_, x1⟩
      | 2, _ => exact ⟨_, x2⟩
      | 3, _ => exact ⟨_, x3⟩
    · rintro j H1 hj ⟨s1, ⟨ts, hL, hlen⟩, jn, eo, hk⟩
      refine ⟨rfl, _, rfl, _, rfl, _, rfl, _, rfl, a, xs, 4 + 5 * j, p, h, congrArg (fun z : Int => [V.ref a, V.int z, V.int (p : Nat), V.int (h : Nat)]) (show (4 : Int) + ((j : Nat) : Int) * 5 = ((4 + 5 * j : Nat) : Int) by omega), s1 _ _ ha, fun x hx => (kn x hx).keep (tk_of s1), by omega, p1, h1, fun o ord H2 t s2 nt ht => ?_, fun i2 ord d2 H2 s2 hd2 => ?_⟩
      · have hL2 := s2 _ _ hL
        obtain ⟨ok, hv⟩ := ordF_inr ord h1 p1
        refine ⟨ts, hL2, small1000 (by omega), fun b u e => ?_, ⟨_, upd_same, by rw [List.length_append, hlen]; rfl⟩, by omega, ?_, fun k hk2 => ?_⟩
        · rw [upd_ne (ne_of_none e nL)]
          exact s2 _ _ (s1 _ _ e)
        · rw [← eo, show n - j = (n - (j + 1)) + 1 by omega, ordsF_step ord]
          rfl
        · by_cases c : k < 4 + 5 * j
          · exact hk k c
          · have z := hv (k - (4 + 5 * j)) (by omega)
            rw [show 4 + 5 * j + (k - (4 + 5 * j)) = k by omega] at z
            have lt : k - (4 + 5 * j) < (o5 o).length := by show _ < 5; omega
            rw [List.getElem?_eq_getElem lt] at z
            exact ⟨_, z⟩
      · have z := ordsF_fail (m := n - (j + 1)) ord
        rw [show n - (j + 1) + 1 = n - j by omega, eo] at z
        rw [z] at dec
        cases dec
        exact q d2 H2 (s1.trans s2) hd2
    · rintro H1 ⟨s1, ⟨ts, hL, hlen⟩, _, eo, hk⟩
      rw [Nat.sub_self] at eo
      rw [← eo] at dec
      have dec : (match rdB xs (4 + 5 * n) (sumV xs (4 + 5 * n)) (sumV xs (4 + 5 * n)) with | none => some (4 + 5 * n) | some _ => if xs.length > 5 + 5 * n then some (5 + 5 * n) else none) = some i := dec
      have ha1 := s1 _ _ ha
      refine ⟨_, rfl, _, rfl, (((4 + 5 * n : Nat) : Int)), rfl, a, _, rfl, SqL.of ha1, fun M nM => ?_⟩
      rw [cut_to, take_nints hk]
      have sM := same_upd (o := HO.lst (nints ((xs.take (4 + 5 * n)).map natV))) nM
      have hM2 := (upd_same : (L2.upd H1 M (.lst (nints ((xs.take (4 + 5 * n)).map natV)))) M = _)
      have ha2 := sM _ _ ha1
      have sA := s1.trans sM
      generalize (L2.upd H1 M (.lst (nints ((xs.take (4 + 5 * n)).map natV)))) = H2 at sA hM2 ha2
      refine ⟨M, _, rfl, hM2, ?_⟩
      refine ⟨_, rfl, _, rfl, _, rfl, _, rfl, a, xs, 4 + 5 * n, sumV xs (4 + 5 * n), sumV xs (4 + 5 * n), rfl, ha2, fun x hx => (kn x hx).keep (tk_of sA), by omega, fun m em => ?_, fun e1 d2 H3 s3 hd => by rw [e1] at dec; cases dec; exact q d2 H3 (sA.trans s3) hd⟩
      rw [em] at dec
      have dec : (if xs.length > 5 + 5 * n then some (5 + 5 * n) else none) = some i := dec
      by_cases c : xs.length > 5 + 5 * n
      · rw [if_pos c] at dec
        cases dec
        refine ⟨_, rfl, a, _, rfl, .inl (SqL.of ha2), _, rfl, _, _, rfl, rfl, _, _, rfl, rfl, _, rfl, ite2 (fun c2 => ?_) (fun c2 => ?_)⟩
        · exact ⟨_, rfl, _, _, rfl, rfl, 5 + 5 * n, congrArg (fun z : Int => [V.int z]) (show (4 : Int) + ((5 * n : Nat) : Int) + 1 = ((5 + 5 * n : Nat) : Int) by omega), by omega, fun d H3 nd hd oth => q d H3 (sA.trans (same_ext nd oth)) hd⟩
        · exact absurd (decide_eq_true (show (4 : Int) + ((5 * n : Nat) : Int) + 1 < ((xs.length : Nat) : Int) by omega)) c2
      · rw [if_neg c] at dec
        cases dec
end
/-! ### the errors as data -/
def errD2 (i : Nat) : PyData := .tuple [.str (eName i), .int 0]
theorem errD2_shaped : ∀ i, i < 15 → PySem.SeqAt.shaped (errD2 i) = true := by decide +kernel
theorem eqv_selfN {d : PyData} (h : PySem.SeqAt.shaped d = true) : (!PyData.eqv d d) = false := by rw [PySem.SeqAt.eqv_refl _ (PySem.SeqAt.canLay_of_shaped h)]; rfl
/-! ### orders as data -/
def odD (o : Od) : PyData := .tuple [.int o.s, .int o.t, .int o.f, .int o.n, .int o.e]
theorem od_dp {K : PySem.W.Frag} {H : Hp} {v : V} {o : Od} (h : OrdAt H v o) : Dp K H v (odD o) := by
  obtain ⟨u, rfl, hu⟩ := h
  exact .tup (SqT.of hu) (.cons (.int _) (.cons (.int _) (.cons (.int _) (.cons (.int _) (.cons (.int _) .nil)))))
theorem ints_flat (l : List Nat) : (nints l).all flatV = true := by
  unfold nints
  rw [List.all_eq_true]
  intro v hv
  obtain ⟨n, _, rfl⟩ := List.mem_map.mp hv
  rfl
theorem inV_ints {d : Nat} (l : List Nat) : inV (.int (d : Nat)) (nints l) = decide (d ∈ l) := by
  unfold inV nints
  induction l with
  | nil => rfl
  | cons n r ih =>
    rw [List.map_cons, List.any_cons, ih]
    have e : eqV (V.int (n : Int)) (V.int (d : Int)) = decide ((n : Int) = (d : Int)) := rfl
    rw [e]
    by_cases h1 : n = d
    · subst h1
      simp
    · rw [decide_eq_false (show ¬ (n : Int) = (d : Int) by omega), Bool.false_or]
      by_cases h2 : d ∈ r
      · rw [decide_eq_true h2, decide_eq_true (List.mem_cons_of_mem _ h2)]
      · rw [decide_eq_false h2, decide_eq_false fun z => (List.mem_cons.mp z).elim (fun y => h1 y.symm) h2]
theorem ods_dp {K : PySem.W.Frag} {H : Hp} {vs : List V} {l : List Od} (h : Paired (OrdAt H) vs l) : DpAll K H vs (l.map odD) := by
  induction h with
  | nil => exact .nil
  | cons r _ ih => exact .cons (od_dp r) ih
theorem ods_depth : ∀ l : List Od, PyData.depthAll (l.map odD) ≤ 1
  | [] => by simp [PyData.depthAll]
  | s :: l => by
    have h1 := ods_depth l
    have h2 : (odD s).depth = 1 := by simp [odD, PyData.depth, PyData.depthAll]
    simp only [List.map_cons, PyData.depthAll]
    omega
theorem ods_lay : ∀ l : List Od, PyData.canLayAll0 (l.map odD) = true
  | [] => by simp [PyData.canLayAll0]
  | s :: l => by
    have h : (odD s).canLay0 = true := by simp [odD, PyData.canLay0, PyData.canLayAll0]
    simp [PyData.canLayAll0, h, ods_lay l]
theorem ods_shaped (l : List Od) : PySem.SeqAt.shaped (.tuple (l.map odD)) = true := by
  have h1 := ods_depth l
  show (PyData.canLay0 (.tuple (l.map odD)) && decide (PyData.depth (.tuple (l.map odD)) ≤ 64)) = true
  rw [Bool.and_eq_true]
  refine ⟨by simp only [PyData.canLay0]; exact ods_lay l, decide_eq_true ?_⟩
  simp only [PyData.depth]
  omega
theorem od_shaped (o : Od) : PySem.SeqAt.shaped (odD o) = true := by
  show ((odD o).canLay0 && decide ((odD o).depth ≤ 64)) = true
  rw [Bool.and_eq_true]
  refine ⟨by simp [odD, PyData.canLay0, PyData.canLayAll0], decide_eq_true ?_⟩
  have h2 : (odD o).depth = 1 := by simp [odD, PyData.depth, PyData.depthAll]
  omega
theorem od_self (o : Od) : PyData.eqv (odD o) (odD o) = true := PySem.SeqAt.eqv_refl _ (PySem.SeqAt.canLay_of_shaped (od_shaped o))
/-! ### k20: codes that are cut, changed, and too long -/
theorem knT_nints {H : Hp} {l : List Nat} : ∀ x ∈ nints l, KnT H x := fun x hx => by
  unfold nints at hx
  obtain ⟨n, _, rfl⟩ := List.mem_map.mp hx
  exact .int
theorem nints_len' {l : List Nat} : (nints l).length = l.length := by
  unfold nints
  exact List.length_map _
theorem rdB_of_within {xs : List V} {k lo hi : Nat} {v : V} (e : xs[k]? = some v) (h : withinB v lo hi = false) : rdB xs k lo hi = none := by
  unfold rdB
  rw [e]
  cases v with
  | int n =>
    have h : (decide ((lo : Int) ≤ n) && decide (n ≤ (hi : Int))) = false := h
    show (if (lo : Int) ≤ n ∧ n ≤ hi then some n.toNat else none) = none
    rw [if_neg fun z => by rw [decide_eq_true z.1, decide_eq_true z.2] at h; cases h]
  | _ => rfl
theorem rdB_out {xs : List V} {k lo hi : Nat} (h : xs.length ≤ k) : rdB xs k lo hi = none := by
  unfold rdB
  rw [List.getElem?_eq_none h]
section
variable {p h at_ : Nat} {os : List Od}
theorem cut_take (ok : NetOk p h os) (lt : at_ < 5 + 5 * os.length) : decF ((nints (codeOf p h os)).take at_) = some at_ :=
  decF_stop ⟨ok, fun j hj v e => by rw [List.getElem?_take_of_lt hj]; exact nints_at e, fun v _ lo hi _ _ _ _ => rdB_out (by rw [List.length_take]; omega)⟩ lt
theorem cut_odd {v : V} (ok : NetOk p h os) (lt : at_ < 5 + 5 * os.length) (hv : ∀ lo hi : Nat, hi ≤ 255 → withinB v lo hi = false) : decF ((nints (codeOf p h os)).take at_ ++ [v] ++ (nints (codeOf p h os)).drop (at_ + 1)) = some at_ := by
  have l1 : ((nints (codeOf p h os)).take at_).length = at_ := by rw [List.length_take, nints_len', codeOf_len]; omega
  refine decF_stop ⟨ok, fun j hj w e => ?_, fun w _ lo hi _ _ h255 _ => rdB_of_within (v := v) ?_ (hv lo hi h255)⟩ lt
  · rw [List.append_assoc, List.getElem?_append_left (by rw [l1]; exact hj), List.getElem?_take_of_lt hj]
    exact nints_at e
  · rw [List.append_assoc, List.getElem?_append_right (Nat.le_of_eq l1), l1, Nat.sub_self]
    rfl
theorem nints_code (p h : Nat) (os : List Od) : nints (codeOf p h os) = nints (bodyC p h os) ++ [.int (sumC (bodyC p h os) : Nat)] := by
  unfold codeOf nints
  rw [List.map_append]
  rfl
theorem cut_wrong {w : Nat} (ok : NetOk p h os) (ne : w ≠ sumC (bodyC p h os)) : decF (nints (bodyC p h os) ++ [.int (w : Nat)]) = some (4 + 5 * os.length) := by
  have l1 : (nints (bodyC p h os)).length = 4 + 5 * os.length := by rw [nints_len', bodyC_len]
  refine decF_stop ⟨ok, fun j hj v e => ?_, fun v e lo hi h1 h2 _ h4 => ?_⟩ (by omega)
  · rw [List.getElem?_append_left (by rw [l1]; exact hj)]
    unfold codeOf at e
    rw [List.getElem?_append_left (by rw [bodyC_len]; exact hj)] at e
    exact nints_at e
  · rw [code_end] at e
    obtain rfl := Option.some.inj e
    obtain ⟨rfl, rfl⟩ := h4 rfl
    refine rdB_of_within (v := .int (w : Nat)) ?_ ?_
    · rw [List.getElem?_append_right (Nat.le_of_eq l1), l1, Nat.sub_self]
      rfl
    · rcases Nat.lt_or_gt_of_ne ne with c | c
      · exact wZ (by omega)
      · exact wN (by omega)
theorem cut_long {rs : List Nat} (ok : NetOk p h os) (ne : 0 < rs.length) : decF (nints (codeOf p h os) ++ nints rs) = some (nints (codeOf p h os)).length := by
  rw [nints_len', codeOf_len]
  refine decF_long ok (fun j v e => ?_) ?_
  · have lt := (List.getElem?_eq_some_iff.mp e).1
    rw [List.getElem?_append_left (by rw [nints_len']; exact lt)]
    exact nints_at e
  · rw [List.length_append, nints_len', nints_len', codeOf_len]
    omega
end
theorem cut_lastV {xs : List V} {v : V} : cutV (xs ++ [v]) none (some (-1)) = xs := by
  unfold cutV
  rw [HT.sIx_none, show HT.sIx (xs ++ [v]).length (xs ++ [v]).length (some (-1)) = xs.length by
    rw [List.length_append, List.length_singleton]
    unfold HT.sIx
    simp only
    rw [if_pos (by decide)]
    omega]
  simp
theorem code_lit : nints (codeOf 30 10 [⟨9, 8, 29, 30, 9⟩]) = ([.int 78, .int 30, .int 10, .int 1, .int 9, .int 8, .int 29, .int 30, .int 9] ++ [V.int ((204 : Nat) : Int)]) := by
  rw [show codeOf 30 10 [⟨9, 8, 29, 30, 9⟩] = [78, 30, 10, 1, 9, 8, 29, 30, 9, 204] by decide +kernel]
  rfl
theorem one_sh {nm : Str} {n : Nat} (hp : PyData.strOk nm = true) : PySem.SeqAt.shaped (.tuple [.str nm, .int (n : Nat)]) = true := by
  simp [PySem.SeqAt.shaped, PyData.canLay0, PyData.canLayAll0, PyData.depth, PyData.depthAll, hp]
theorem one_lit {K : PySem.W.Frag} {σ : L2.St} {H : Hp} {u : Addr} {nm : Str} {n : Nat} {te : TE} {R : Bool → Hp → Prop} (hp : PyData.strOk nm = true) (hu : H u = some (.tup [.str nm, .int (n : Nat)])) (ht : ∀ k : V → Hp → Prop, k (.int (n : Nat)) H → te σ H k) (q : ∀ H', Same H H' → R false H') :
    tTup (tCons (tC (.str nm)) (tCons te tNil)) σ H (fun y H2 => rNeD K (.ref u) y H2 fun x H' => ∃ b, x = V.bl b ∧ R b H') := by
  refine ht _ ⟨(by show 2 ≤ sizeLine; decide), fun y ny => ?_⟩
  have s1 := same_upd (o := HO.tup [.str nm, .int (n : Nat)]) ny
  exact ⟨_, _, .tup (SqT.of (s1 _ _ hu)) (.cons (.str _) (.cons (.int _) .nil)), .tup (SqT.of upd_same) (.cons (.str _) (.cons (.int _) .nil)), one_sh hp, one_sh hp, false, congrArg V.bl (eqv_selfN (one_sh hp)), q _ s1⟩
section
open LamX (Tabs ExtN)
/-- what the law of invalid bytes keeps -/
structure J20 (d co : Addr) (l : List Nat) (Pt : Addr) (q : Str) (H : Hp) : Prop where
  D : DAt H d
  T : Tabs [(Pt, q)] H
  C : H co = some (.lst (nints l))
variable {d co : Addr} {l : List Nat} {Pt : Addr} {q : Str} {H H' : Hp}
theorem J20.same (J : J20 d co l Pt q H) (s : Same H H') : J20 d co l Pt q H' := ⟨J.D.but s, tabs_same J.T s, s _ _ J.C⟩
theorem J20.butD (J : J20 d co l Pt q H) (b : But d H H') (D' : DAt H' d) (n : co ≠ d) : J20 d co l Pt q H' := ⟨D', tabs_butD J.T b J.D, b _ _ n J.C⟩
theorem J20.extN (J : J20 d co l Pt q H) (e : ExtN H H') (T' : Tabs [(Pt, q)] H') : J20 d co l Pt q H' := ⟨J.D.extN e, T', ExtN.lst e J.C⟩
theorem J20.butL {m : Addr} {xs : List V} (J : J20 d co l Pt q H) (b : But m H H') (hm : H m = some (.lst xs)) (n1 : m ≠ d) (n2 : m ≠ co) : J20 d co l Pt q H' := by
  refine ⟨?_, tabs_butL J.T b hm, b _ _ n2.symm J.C⟩
  obtain ⟨x1, x2, x3, x4, x5, hd⟩ := J.D
  exact ⟨x1, x2, x3, x4, x5, b _ _ n1.symm hd⟩
end
abbrev s_law : Stmt := top 46
abbrev N_law : List Str := ["_law_script", "_law_head", "_law_cases", "_law_place", "_law_largest", "_law_at", "_law_bad", "_law_code", "_law_d", "_law_extra", "_law_none", "_law_odd", "_law_wrong", "_law_k"]
abbrev P_law : List Str := ["_law_script"]
theorem sc_law : FnScope N_law P_law (defScope s_law) := ⟨rfl, rfl, rfl, by decide +kernel, rfl, by decide +kernel, by decide +kernel⟩
section
open LamX (Tabs TabB)
variable {P : Program} {w : World} {K : PySem.W.Frag} {mg : Str → Option Value} {base : Heap}
set_option maxHeartbeats 0 in
theorem ok_law {f C fX fD cL Pt CP : Addr} {cE : Nat → Addr} {fd fdX fdD : FuncData} (F : FunC K "law" "law" s_law f fd cL) (TBl : TabB base mg cL Pt) (B : Blt mg) (zs : mg "sum" = none) (TN : NetT K C)
    (FX : Fun K "_law_error_of" "_law_error_of" s_l_error_of fX fdX) (gX : mg "_law_error_of" = some (.ref fX)) (kX : PySem.W.keepIn K (.ref fX) = true) (bX : Binds K fdX P_l_error_of []) (ME : ErrM mg CP cE) (e15 : Err15 K CP cE (cE 13) 13) (xc : XfC K (cE 13)) (xf1 : PySem.W.findIn K (.ref (cE 13)) "place" = some none)
    (DR : Df P w K mg base "_law_random" 2 P_l_random (spRandom K)) (DB : Df P w K mg base "_law_below" 2 P_l_below spBelow) (DM : Df P w K mg base "_law_small" 4 P_l_small spSmall) (DN : Df P w K mg base "_law_net" 7 P_l_net (spNet C)) (DE : Df P w K mg base "encode" 2 P_encode (spEncode C))
    (gD : mg "decode" = some (.ref fD)) (kD : PySem.W.keepIn K (.ref fD) = true) (bD : Binds K fdD P_decode []) (GD : FnOk P w K mg base CX0 7 fD fdD P_decode (spDecode C)) (GDX : FnOk P w K mg base (L2.CX P w) 6 fD fdD P_decode (spDecodeX K (cE 13))) : FnOk P w K mg base CX0 9 f fd P_law (spLawT K Pt) := by
  obtain ⟨f1, d1, g1, k1, b1, G1⟩ := DR
  obtain ⟨fB, dB, gB, kB, bB, GB⟩ := DB
  obtain ⟨fM, dM, gM, kM, bM, GM⟩ := DM
  obtain ⟨fN, dN, gN, kN, bN, GN⟩ := DN
  obtain ⟨fE, dE, gE, kE, bE, GE⟩ := DE
  obtain ⟨ocX, odX, kVX, docX, pmX, anX, cdvX, ctX, oslX, rfl, lkX, hcX⟩ := FX.ex
  refine F.ok sc_law (fun vs H Q E h => ?_) (fun A outer s H vs Q E hr h => ?_)
  · obtain ⟨a, ns, rfl, _⟩ := h
    rfl
  · obtain ⟨a, ns, rfl, hS, hlen, hPt, qz⟩ := h
    have hr2 : Room 2 _ := hr.mono (by decide)
    have hr4 : Room 4 _ := hr.mono (by decide)
    have hr7 : Room 7 _ := hr.mono (by decide)
    have hr8 : Room 8 _ := hr.mono (by decide)
    have hu : (A.deeper (PyProof.Rows.envOfC "law" (defScope s_law) s.heap.objs.size f (.ref cL))).units + 64 < cLine := hr.units
    refine ⟨_, (pss_cons (ps_set (i := 8) sc_law.nd rfl (.inr rfl) (pe_call G1 hr2 (by rfl) g1 k1 b1 .nil pass0 (pa_cons (pv 0) (pa_cons pe_int pa_nil))))
      (pss_cons (ps_set (i := 7) sc_law.nd rfl (.inr rfl) (pe_call GE hr2 (by rfl) gE kE bE .nil pass0 (pa_cons (pe_call GN hr7 (by rfl) gN kN bN .nil pass0 (pa_cons (pe_call GM hr4 (by rfl) gM kM bM .nil pass0 (pa_cons (pv 8) pa_nil)) pa_nil)) pa_nil)))
      (C8.pss_cut (ps_set (i := 5) sc_law.nd rfl (.inr rfl) (pe_call GB hr2 (by rfl) gB kB bB .nil pass0 (pa_cons (pv 8) (pa_cons (pe_callB call_len_seq (by rfl) B.len PySem.boot_len (pa_cons (pv 7) pa_nil)) pa_nil))))
      (pss_cons (ps_if (pt_cmpR (op_neD hu) (LamX.pe_lamcall (T := [(Pt, _)]) (TT := TTerrE K CP cE) (k := 6) (Ng := N_l_error_of) (t := (fun E => tCall (spDecodeX K (cE 13)) [] E (tCons (tSl (rSlL K) (tVar 7) tNoPart (tPart (tVar 5))) tNil))) (by rfl) gX kX lkX hcX bX sc_l_error_of rfl (.inl rfl) (err_givesE ME B hr8) TBl rfl List.mem_cons_self (fun p hp _ => by rw [List.mem_singleton.mp hp]) hr8 (LamX.lamS_by (by show LamX.lamSB (defScope s_law) _ = true; decide +kernel)) rfl (fun _ _ _ _ _ => rfl)
        (fun A outer s H E f c' hr' => pe_call (E := E) GDX hr' (by rfl) gD kD bD .nil (passes_call (takes_of rfl rfl rfl rfl) fun _ _ _ _ z => z) (pa_cons (pe_slice sl_list (pv 7) po_none (po_some (pv 5))) pa_nil))) (pe_tup (pa_cons pe_str (pa_cons (pv 5) pa_nil))) (nomark _)) (pss_one (ps_ret pe_bl)) pss_nil)
      (C8.pss_cut (ps_set (i := 9) sc_law.nd rfl (.inr rfl) (pe_op op_cat (pv 7) (pe_lc (own := [("_law_k", 13)]) (g := gName 13) (tt := tYes) (te := tCall spBelow [] E0 (tCons (tVar 8) (tCons (tC (.int 256)) tNil))) (by rfl) sc_law.nd (pi_range1 rfl B.range (pa_cons (pe_op op_add pe_int (pe_call GB hr2 (by rfl) gB kB bB .nil pass0 (pa_cons (pv 8) (pa_cons pe_int pa_nil)))) pa_nil)) (blkOk_by (by show blkC N_law (defScope s_law) _ _ = true; decide +kernel)) (fun _ _ _ _ _ => pg_name (i := 13) sc_law.nd rfl (.inl rfl)) (fun _ _ _ _ _ => pts_nil) (fun _ _ _ _ _ => (pe_call GB hr2 (by rfl) gB kB bB .nil pass0 (pa_cons (pv 8) (pa_cons pe_int pa_nil)))))))
      (pss_cons (ps_if (pt_cmpR (op_neD hu) (LamX.pe_lamcall (T := [(Pt, _)]) (TT := TTerrE K CP cE) (k := 6) (Ng := N_l_error_of) (t := (fun E => tCall (spDecodeX K (cE 13)) [] E (tCons (tVar 9) tNil))) (by rfl) gX kX lkX hcX bX sc_l_error_of rfl (.inl rfl) (err_givesE ME B hr8) TBl rfl List.mem_cons_self (fun p hp _ => by rw [List.mem_singleton.mp hp]) hr8 (LamX.lamS_by (by show LamX.lamSB (defScope s_law) _ = true; decide +kernel)) rfl (fun _ _ _ _ _ => rfl)
        (fun A outer s H E f c' hr' => pe_call (E := E) GDX hr' (by rfl) gD kD bD .nil (passes_call (takes_of rfl rfl rfl rfl) fun _ _ _ _ z => z) (pa_cons (pv 9) pa_nil))) (pe_tup (pa_cons pe_str (pa_cons (pe_callB call_len_seq (by rfl) B.len PySem.boot_len (pa_cons (pv 7) pa_nil)) pa_nil))) (nomark _)) (pss_one (ps_ret pe_bl)) pss_nil)
      (C8.pss_cut (ps_set (i := 11) sc_law.nd rfl (.inr rfl) (pe_ix ix_list (pe_lst (pa_cons pe_non (pa_cons pe_bl (pa_cons pe_str (pa_cons pe_int (pa_cons (pe_op op_sub pe_int pe_int) (pa_cons (pe_tup (pa_cons pe_int pa_nil)) pa_nil))))))) (pe_call GB hr2 (by rfl) gB kB bB .nil pass0 (pa_cons (pv 8) (pa_cons pe_int pa_nil))) (fun _ _ => rfl)))
      (pss_cons (ps_if (pt_cmpR (op_neD hu) (LamX.pe_lamcall (T := [(Pt, _)]) (TT := TTerrE K CP cE) (k := 6) (Ng := N_l_error_of) (t := (fun E => tCall (spDecodeX K (cE 13)) [] E (tCons (tOp rCat (tOp rCat (tSl (rSlL K) (tVar 7) tNoPart (tPart (tVar 5))) (tLst (tCons (tVar 11) tNil))) (tSl (rSlL K) (tVar 7) (tPart (tOp (rI0 fun i j => V.int (i + j)) (tVar 5) (tC (.int 1)))) tNoPart)) tNil))) (by rfl) gX kX lkX hcX bX sc_l_error_of rfl (.inl rfl) (err_givesE ME B hr8) TBl rfl List.mem_cons_self (fun p hp _ => by rw [List.mem_singleton.mp hp]) hr8 (LamX.lamS_by (by show LamX.lamSB (defScope s_law) _ = true; decide +kernel)) rfl (fun _ _ _ _ _ => rfl)
        (fun A outer s H E f c' hr' => pe_call (E := E) GDX hr' (by rfl) gD kD bD .nil (passes_call (takes_of rfl rfl rfl rfl) fun _ _ _ _ z => z) (pa_cons (pe_op op_cat (pe_op op_cat (pe_slice sl_list (pv 7) po_none (po_some (pv 5))) (pe_lst (pa_cons (pv 11) pa_nil))) (pe_slice sl_list (pv 7) (po_some (pe_op op_add (pv 5) pe_int)) po_none)) pa_nil))) (pe_tup (pa_cons pe_str (pa_cons (pv 5) pa_nil))) (nomark _)) (pss_one (ps_ret pe_bl)) pss_nil)
      (C8.pss_cut (ps_set (i := 12) sc_law.nd rfl (.inr rfl) (pe_op op_cat (pe_slice sl_list (pv 7) po_none (po_some (pe_un un_neg pe_int))) (pe_lst (pa_cons (pe_op op_modN (pe_op op_add (pe_op op_add (pe_ix ix_list (pv 7) (pe_un un_neg pe_int) (fun _ _ => rfl)) pe_int) (pe_call GB hr2 (by rfl) gB kB bB .nil pass0 (pa_cons (pv 8) (pa_cons pe_int pa_nil)))) pe_int) pa_nil))))
      (pss_cons (ps_if (pt_cmpR (op_neD hu) (LamX.pe_lamcall (T := [(Pt, _)]) (TT := TTerrE K CP cE) (k := 6) (Ng := N_l_error_of) (t := (fun E => tCall (spDecodeX K (cE 13)) [] E (tCons (tVar 12) tNil))) (by rfl) gX kX lkX hcX bX sc_l_error_of rfl (.inl rfl) (err_givesE ME B hr8) TBl rfl List.mem_cons_self (fun p hp _ => by rw [List.mem_singleton.mp hp]) hr8 (LamX.lamS_by (by show LamX.lamSB (defScope s_law) _ = true; decide +kernel)) rfl (fun _ _ _ _ _ => rfl)
        (fun A outer s H E f c' hr' => pe_call (E := E) GDX hr' (by rfl) gD kD bD .nil (passes_call (takes_of rfl rfl rfl rfl) fun _ _ _ _ z => z) (pa_cons (pv 12) pa_nil))) (pe_tup (pa_cons pe_str (pa_cons (pe_op op_sub (pe_callB call_len_seq (by rfl) B.len PySem.boot_len (pa_cons (pv 7) pa_nil)) pe_int) pa_nil))) (nomark _)) (pss_one (ps_ret pe_bl)) pss_nil)
      (C8.pss_cut (ps_set (i := 10) sc_law.nd rfl (.inr rfl) (pe_ix ix_list (pe_lst (pa_cons pe_non (pa_cons pe_int (pa_cons (pe_tup (pa_cons pe_int (pa_cons pe_int pa_nil))) (pa_cons pe_str (pa_cons pe_bl pa_nil)))))) (pe_call GB hr2 (by rfl) gB kB bB .nil pass0 (pa_cons (pv 8) (pa_cons pe_int pa_nil))) (fun _ _ => rfl)))
      (pss_cons (ps_if (pt_cmpR (op_neD hu) (LamX.pe_lamcall (T := [(Pt, _)]) (TT := TTerrE K CP cE) (k := 6) (Ng := N_l_error_of) (t := (fun E => tCall (spDecodeX K (cE 13)) [] E (tCons (tVar 10) tNil))) (by rfl) gX kX lkX hcX bX sc_l_error_of rfl (.inl rfl) (err_givesE ME B hr8) TBl rfl List.mem_cons_self (fun p hp _ => by rw [List.mem_singleton.mp hp]) hr8 (LamX.lamS_by (by show LamX.lamSB (defScope s_law) _ = true; decide +kernel)) rfl (fun _ _ _ _ _ => rfl)
        (fun A outer s H E f c' hr' => pe_call (E := E) GDX hr' (by rfl) gD kD bD .nil (passes_call (takes_of rfl rfl rfl rfl) fun _ _ _ _ z => z) (pa_cons (pv 10) pa_nil))) (pe_tup (pa_cons pe_str (pa_cons pe_int pa_nil))) (nomark _)) (pss_one (ps_ret pe_bl)) pss_nil)
      (pss_cons (ps_set (i := 1) sc_law.nd rfl (.inl rfl) (pe_lst (pa_cons pe_int (pa_cons pe_int (pa_cons pe_int (pa_cons pe_int pa_nil))))))
      (pss_cons (ps_set (i := 2) sc_law.nd rfl (.inl rfl) (pe_lst (pa_cons (pe_tup (pa_cons (pe_lst (pa_cons pe_int pa_nil)) (pa_cons pe_int pa_nil))) (pa_cons (pe_tup (pa_cons (pe_lst (pa_cons pe_int (pa_cons pe_int pa_nil))) (pa_cons pe_int pa_nil))) (pa_cons (pe_tup (pa_cons (pe_lst (pa_cons pe_int (pa_cons pe_int pa_nil))) (pa_cons pe_int pa_nil))) (pa_cons (pe_tup (pa_cons (pe_lst (pa_cons pe_int (pa_cons pe_int (pa_cons pe_int pa_nil)))) (pa_cons pe_int pa_nil))) (pa_cons (pe_tup (pa_cons (pe_lst (pa_cons pe_int (pa_cons pe_int (pa_cons pe_int pa_nil)))) (pa_cons pe_int pa_nil))) (pa_cons (pe_tup (pa_cons (pe_lst (pa_cons pe_int (pa_cons pe_int (pa_cons pe_int (pa_cons pe_int pa_nil))))) (pa_cons pe_int pa_nil))) pa_nil))))))))
      (pss_cons (ps_set (i := 2) sc_law.nd rfl (.inl rfl) (pe_op op_cat (pv 2) (pe_lst (pa_cons (pe_tup (pa_cons (pe_lst (pa_cons pe_int (pa_cons pe_int (pa_cons pe_int (pa_cons pe_int pa_nil))))) (pa_cons pe_int pa_nil))) (pa_cons (pe_tup (pa_cons (pe_op op_cat (pv 1) (pe_lst (pa_cons pe_int pa_nil))) (pa_cons pe_int pa_nil))) (pa_cons (pe_tup (pa_cons (pe_op op_cat (pv 1) (pe_lst (pa_cons pe_int (pa_cons pe_int pa_nil)))) (pa_cons pe_int pa_nil))) (pa_cons (pe_tup (pa_cons (pe_op op_cat (pv 1) (pe_lst (pa_cons pe_int (pa_cons pe_int pa_nil)))) (pa_cons pe_int pa_nil))) (pa_cons (pe_tup (pa_cons (pe_op op_cat (pv 1) (pe_lst (pa_cons pe_int (pa_cons pe_int (pa_cons pe_int pa_nil))))) (pa_cons pe_int pa_nil))) pa_nil))))))))
      (pss_cons (ps_set (i := 2) sc_law.nd rfl (.inl rfl) (pe_op op_cat (pv 2) (pe_lst (pa_cons (pe_tup (pa_cons (pe_op op_cat (pv 1) (pe_lst (pa_cons pe_int (pa_cons pe_int (pa_cons pe_int (pa_cons pe_int pa_nil)))))) (pa_cons pe_int pa_nil))) (pa_cons (pe_tup (pa_cons (pe_op op_cat (pv 1) (pe_lst (pa_cons pe_int (pa_cons pe_int (pa_cons pe_int (pa_cons pe_int pa_nil)))))) (pa_cons pe_int pa_nil))) (pa_cons (pe_tup (pa_cons (pe_op op_cat (pv 1) (pe_lst (pa_cons pe_int (pa_cons pe_int (pa_cons pe_int (pa_cons pe_int (pa_cons pe_int pa_nil))))))) (pa_cons pe_int pa_nil))) pa_nil))))))
      (pss_cons (ps_expr (pe_bm PySem.F.plainAttrs_list PySem.F.slot_list_append PySem.F.type_list_append mt_append (pv 2) (pa_cons (pe_tup (pa_cons (pe_op op_cat (pv 1) (pe_lst (pa_cons pe_int (pa_cons pe_int (pa_cons pe_int (pa_cons pe_int (pa_cons pe_int pa_nil))))))) (pa_cons pe_int pa_nil))) pa_nil)))
      (C8.pss_cut (ps_asg (pe_ix ix_list (pv 2) (pe_call GB hr2 (by rfl) gB kB bB .nil pass0 (pa_cons (pv 8) (pa_cons pe_int pa_nil))) (fun _ _ => rfl)) (pg_tup (by rfl) (pgs_cons (pg_name (i := 6) sc_law.nd rfl (.inr rfl)) (pgs_cons (pg_name (i := 3) sc_law.nd rfl (.inl rfl)) pgs_nil))))
      (pss_cons (ps_if (pt_cmpR (op_neD hu) (LamX.pe_lamcall (T := [(Pt, _)]) (TT := TTerrE K CP cE) (k := 6) (Ng := N_l_error_of) (t := (fun E => tCall (spDecodeX K (cE 13)) [] E (tCons (tOp rCat (tVar 6) (tLc _ (gName 13) tYes (tCall spBelow [] E0 (tCons (tVar 8) (tCons (tC (.int 256)) tNil))) _)) tNil))) (by rfl) gX kX lkX hcX bX sc_l_error_of rfl (.inl rfl) (err_givesE ME B hr8) TBl rfl List.mem_cons_self (fun p hp _ => by rw [List.mem_singleton.mp hp]) hr8 (LamX.lamS_by (by show LamX.lamSB (defScope s_law) _ = true; decide +kernel)) rfl (fun _ _ _ _ _ => rfl)
        (fun A outer s H E f c' hr' => pe_call (E := E) GDX hr' (by rfl) gD kD bD .nil (passes_call (takes_of rfl rfl rfl rfl) fun _ _ _ _ z => z) (pa_cons (pe_op op_cat (pv 6) (pe_lc (own := [("_law_k", 13)]) (g := gName 13) (tt := tYes) (te := tCall spBelow [] E0 (tCons (tVar 8) (tCons (tC (.int 256)) tNil))) (by rfl) sc_law.nd (pi_range1 rfl B.range (pa_cons pe_int pa_nil)) (blkOk_by (by show blkC N_law { kind := .function, names := [("_law_bad", .free), ("_law_d", .free), ("decode", .globalImplicit), ("range", .globalImplicit)], isGenerator := false, isCoroutine := false, more := [("fast", .str "_law_k"), ("fast", .str "_law_bad"), ("fast", .str "_law_d")] } _ _ = true; decide +kernel)) (fun _ _ _ _ _ => pg_name (i := 13) sc_law.nd rfl (.inl rfl)) (fun _ _ _ _ _ => pts_nil) (fun _ _ _ _ _ => (pe_call GB (hr'.mono (by decide)) (by rfl) gB kB bB .nil pass0 (pa_cons (pv 8) (pa_cons pe_int pa_nil)))))) pa_nil))) (pe_tup (pa_cons pe_str (pa_cons (pv 3) pa_nil))) (nomark _)) (pss_one (ps_ret pe_bl)) pss_nil)
      (pss_cons (ps_set (i := 4) sc_law.nd rfl (.inl rfl) (pe_lst (pa_cons pe_int (pa_cons pe_int (pa_cons pe_int (pa_cons pe_int (pa_cons pe_int (pa_cons pe_int (pa_cons pe_int (pa_cons pe_int (pa_cons pe_int pa_nil)))))))))))
      (pss_one (ps_ret (pe_cmpR (op_eqD hu) (pe_fld (pe_call GD hr7 (by rfl) gD kD bD .nil pass0 (pa_cons (pe_op op_cat (pv 4) (pe_lst (pa_cons (pe_op op_modN (pe_callB (cr_sum rfl) (by rfl) zs PyProof.Rows.boot_sum (pa_cons (pv 4) pa_nil)) pe_int) pa_nil))) pa_nil)) rfl) (pe_tup (pa_cons (pe_tup (pa_cons pe_int (pa_cons pe_int (pa_cons pe_int (pa_cons pe_int (pa_cons pe_int pa_nil)))))) pa_nil)) (nomark _)))))))))))))))))))))))), ?_⟩
    refine ⟨_, rfl, a, ns, 20, rfl, hS, hlen, by decide, fun H1 d s1 nd D1 => ?_⟩
    let qL : Str := (PyProof.Rows.envOfC "law" (defScope s_law) 0 0 .none).qual ++ "<lambda>"
    have T1 : Tabs [(Pt, qL)] H1 := fun p hp => by
      rw [List.mem_singleton.mp hp]
      exact LamX.TabS.nil (s1 _ _ hPt)
    refine ⟨_, rfl, d, rfl, D1, fun H2 pa p h os ok sm b2 D2 npa PA => ?_⟩
    have T2 := tabs_butD T1 b2 D1
    obtain ⟨t, hpa, hO⟩ := PA
    refine ⟨pa, t, p, h, os, rfl, hpa, hO, ok, fun H3 x F s3 nF N3 => ?_⟩
    refine ⟨x, t, p, h, os, F, rfl, N3, ok, fun H4 co s4 nco hco => ?_⟩
    have D3 := D2.but s3
    have cod : co ≠ d := (ne_of_none D3.som.choose_spec nco).symm
    have J4 : J20 d co (codeOf p h os) Pt qL H4 := ⟨D3.but s4, tabs_same T2 (s3.trans s4), hco⟩
    have ol : os.length ≤ 6 := sm.2.2.2.2
    have cl : (nints (codeOf p h os)).length = 5 + 5 * os.length := by rw [nints_len', codeOf_len]
    have okc : PyData.strOk ("code" : Str) = true := by decide +kernel
    clear s1 b2 D1 T1 nd npa hpa T2 hO s3 nF N3 D2 D3 s4 nco hco sm
    refine ⟨fun σ' H' => ∃ at_ : Nat, σ' = [some (.ref a), none, none, none, none, some (.int at_), none, some (.ref co), some (.ref d), none, none, none, none, none] ∧ at_ < 5 + 5 * os.length ∧ J20 d co (codeOf p h os) Pt qL H', ?_, ?_⟩
    · refine ⟨_, rfl, _, rfl, co, _, rfl, .inl (SqL.of J4.C), d, (nints (codeOf p h os)).length, rfl, J4.D, by omega, by omega, fun H5 r hr5 b5 D5 => ⟨r, rfl, by omega, J4.butD b5 D5 cod⟩⟩
    clear J4
    rintro σ H1 ⟨at_, rfl, hat, J1⟩
    refine ⟨J1.T, fun H2 e2 T2 => ?_⟩
    have J2 := J1.extN e2 T2
    refine ⟨_, rfl, _, rfl, at_, rfl, co, _, rfl, SqL.of J2.C, fun m nm => ?_⟩
    rw [cut_to]
    have sm := same_upd (o := HO.lst ((nints (codeOf p h os)).take at_)) nm
    have hm := (upd_same : (L2.upd H2 m (.lst ((nints (codeOf p h os)).take at_))) m = _)
    refine ⟨_, at_, rfl, .inr ⟨m, _, rfl, hm, fun z hz => knT_nints z (List.mem_of_mem_take hz), by rw [List.length_take]; omega, cut_take ok hat⟩, fun d2 H3 s3 hx => ⟨cE 13, 13, rfl, e15, .inr (.inr (.inr ⟨.inl rfl, xc, xf1, d2, at_, rfl, hx, fun u H4 s4 hu => one_lit (nm := "code") (n := at_) okc hu (fun k z => ⟨_, rfl, z⟩) fun H5 s5 => iteF ?_⟩))⟩⟩
    have J5 := J2.same (sm.trans (s3.trans (s4.trans s5)))
    clear J1 J2 e2 T2 sm hm nm s3 s4 s5 hx hu
    refine ⟨fun σ' H' => ∃ (ex : Addr) (rs : List Nat), σ' = [some (.ref a), none, none, none, none, some (.int at_), none, some (.ref co), some (.ref d), some (.ref ex), none, none, none, none] ∧ H' ex = some (.lst (nints (codeOf p h os) ++ nints rs)) ∧ 0 < rs.length ∧ rs.length ≤ 3 ∧ J20 d co (codeOf p h os) Pt qL H', ?_, ?_⟩
    · refine ⟨_, rfl, _, rfl, d, 3, rfl, J5.D, by decide, by decide, fun H6 n hn b6 D6 => ⟨_, _, rfl, rfl, _, rfl, by omega, by omega, fun L nL => ?_⟩⟩
      have J6 := J5.butD b6 D6 cod
      have Ld : L ≠ d := (ne_of_none D6.som.choose_spec nL).symm
      refine lc_range (lo := 0) (n := (1 + (n : Int)).toNat) (fun i H' => But d H6 H' ∧ DAt H' d ∧ ∃ rs : List Nat, H' L = some (.lst (nints rs)) ∧ rs.length = i) ⟨.new nL, D6.but (same_upd nL), [], upd_same, rfl⟩ ?_ ?_
      · rintro i H' hi ⟨bb, DD, rs, hL, hlen2⟩
        refine ⟨rfl, ?_⟩
        refine ⟨_, rfl, d, 256, rfl, DD, by decide, by decide, fun H8 r hr8 b8 D8 => ⟨_, b8 _ _ Ld hL, small1000 (by rw [nints_len']; omega), (bb.trans b8).updN nL, D8.updN Ld.symm, rs ++ [r], ?_, by rw [List.length_append, hlen2]; rfl⟩⟩
        rw [upd_same, nints_app]
        rfl
      · rintro H' ⟨bb, DD, rs, hL, hlen2⟩
        have J7 := J6.butD bb DD cod
        refine ⟨co, L, _, _, rfl, rfl, J7.C, hL, Nat.le_of_lt (small1000 (by rw [cl, nints_len']; omega)), fun ex nex => ?_⟩
        exact ⟨ex, rs, rfl, upd_same, by omega, by omega, J7.same (same_upd nex)⟩
    clear J5
    rintro σ H1 ⟨ex, rs, rfl, hex, r0, r3, J1⟩
    refine ⟨J1.T, fun H2 e2 T2 => ?_⟩
    have J2 := J1.extN e2 T2
    have hex2 := ExtN.lst e2 hex
    refine ⟨_, rfl, _, (nints (codeOf p h os)).length, rfl, .inr ⟨ex, _, rfl, hex2, fun z hz => (List.mem_append.mp hz).elim (knT_nints z) (knT_nints z), by rw [List.length_append, cl, nints_len']; omega, cut_long ok r0⟩, fun d2 H3 s3 hx => ⟨cE 13, 13, rfl, e15, .inr (.inr (.inr ⟨.inl rfl, xc, xf1, d2, (nints (codeOf p h os)).length, rfl, hx, fun u H4 s4 hu => one_lit (nm := "code") (n := (nints (codeOf p h os)).length) okc hu (fun k z => ⟨_, rfl, co, _, rfl, .inl (SqL.of ((s3.trans s4) _ _ J2.C)), z⟩) fun H5 s5 => iteF ?_⟩))⟩⟩
    have J5 := J2.same (s3.trans (s4.trans s5))
    clear J1 J2 e2 T2 s3 s4 s5 hx hu hex hex2 r0 r3
    refine ⟨fun σ' H' => ∃ v, σ' = [some (.ref a), none, none, none, none, some (.int at_), none, some (.ref co), some (.ref d), some (.ref ex), none, some v, none, none] ∧ KnT H' v ∧ (∀ lo hi : Nat, hi ≤ 255 → withinB v lo hi = false) ∧ J20 d co (codeOf p h os) Pt qL H', ?_, ?_⟩
    · refine ⟨_, _, rfl, rfl, (by show 1 ≤ sizeLine; decide), fun u1 n1 => ?_⟩
      have s1 := same_upd (o := HO.tup [.int 1]) n1
      have h1 := (upd_same : (L2.upd H5 u1 (.tup [.int 1])) u1 = _)
      generalize (L2.upd H5 u1 (.tup [.int 1])) = H6 at s1 h1
      refine ⟨(by show 6 ≤ sizeLine; decide), fun l nl => ?_⟩
      have s2 := same_upd (o := HO.lst [.non, .bl true, .str "a", .int 256, .int (0 - 1), .ref u1]) nl
      have h2 := (upd_same : (L2.upd H6 l (.lst [.non, .bl true, .str "a", .int 256, .int (0 - 1), .ref u1])) l = _)
      have ld : l ≠ d := (ne_of_none (s1 _ _ J5.D.som.choose_spec) nl).symm
      have J7 := J5.same (s1.trans s2)
      have h1 := s2 _ _ h1
      generalize (L2.upd H6 l (.lst [.non, .bl true, .str "a", .int 256, .int (0 - 1), .ref u1])) = H7 at h2 J7 h1
      refine ⟨_, rfl, d, 6, rfl, J7.D, by decide, by decide, fun H8 r hr8 b8 D8 => ?_⟩
      have J8 := J7.butD b8 D8 cod
      have h2 := b8 _ _ ld h2
      have h1 := b8.tk J7.D _ _ h1
      match r, hr8 with
      | 0, _ => exact ⟨l, _, 0, _, rfl, rfl, SqL.of h2, atI_nat (j := 0) rfl, _, rfl, .non, fun lo hi c => rfl, J8⟩
      | 1, _ => exact ⟨l, _, 1, _, rfl, rfl, SqL.of h2, atI_nat (j := 1) rfl, _, rfl, .bl, fun lo hi c => rfl, J8⟩
      | 2, _ => exact ⟨l, _, 2, _, rfl, rfl, SqL.of h2, atI_nat (j := 2) rfl, _, rfl, .str, fun lo hi c => rfl, J8⟩
      | 3, _ => exact ⟨l, _, 3, _, rfl, rfl, SqL.of h2, atI_nat (j := 3) rfl, _, rfl, .int, fun lo hi c => wN (by omega), J8⟩
      | 4, _ => exact ⟨l, _, 4, _, rfl, rfl, SqL.of h2, atI_nat (j := 4) rfl, _, rfl, .int, fun lo hi c => wZ (by omega), J8⟩
      | 5, _ => exact ⟨l, _, 5, _, rfl, rfl, SqL.of h2, atI_nat (j := 5) rfl, _, rfl, .tup h1, fun lo hi c => rfl, J8⟩
      | r + 6, hz => exact absurd hz (by omega)
    clear J5
    rintro σ H1 ⟨v, rfl, kv, hv, J1⟩
    refine ⟨J1.T, fun H2 e2 T2 => ?_⟩
    have J2 := J1.extN e2 T2
    have kv2 := kv.keep (ExtN.tk e2)
    refine ⟨_, rfl, _, rfl, at_, rfl, co, _, rfl, SqL.of J2.C, fun m1 n1 => ?_⟩
    rw [cut_to]
    have s1 := same_upd (o := HO.lst ((nints (codeOf p h os)).take at_)) n1
    have h1 := (upd_same : (L2.upd H2 m1 (.lst ((nints (codeOf p h os)).take at_))) m1 = _)
    generalize (L2.upd H2 m1 (.lst ((nints (codeOf p h os)).take at_))) = H3 at s1 h1
    refine ⟨_, rfl, (by show 1 ≤ sizeLine; decide), fun m2 n2 => ?_⟩
    have s2 := same_upd (o := HO.lst [v]) n2
    have h2 := (upd_same : (L2.upd H3 m2 (.lst [v])) m2 = _)
    generalize (L2.upd H3 m2 (.lst [v])) = H4 at s2 h2
    have tkl : ((nints (codeOf p h os)).take at_).length = at_ := by rw [List.length_take]; omega
    refine ⟨m1, m2, _, _, rfl, rfl, s2 _ _ h1, h2, Nat.le_of_lt (small1000 (by rw [tkl]; show at_ + 1 ≤ 1000; omega)), fun m3 n3 => ?_⟩
    have s3 := same_upd (o := HO.lst ((nints (codeOf p h os)).take at_ ++ [v])) n3
    have h3 := (upd_same : (L2.upd H4 m3 (.lst ((nints (codeOf p h os)).take at_ ++ [v]))) m3 = _)
    generalize (L2.upd H4 m3 (.lst ((nints (codeOf p h os)).take at_ ++ [v]))) = H5 at s3 h3
    have sA := s1.trans (s2.trans s3)
    refine ⟨_, rfl, _, rfl, _, _, rfl, rfl, _, rfl, co, _, rfl, SqL.of (sA _ _ J2.C), fun m4 n4 => ?_⟩
    rw [show cutV (nints (codeOf p h os)) (some ((at_ : Int) + 1)) none = (nints (codeOf p h os)).drop (at_ + 1) from cut_from (n := at_ + 1)]
    have s4 := same_upd (o := HO.lst ((nints (codeOf p h os)).drop (at_ + 1))) n4
    have h4 := (upd_same : (L2.upd H5 m4 (.lst ((nints (codeOf p h os)).drop (at_ + 1)))) m4 = _)
    generalize (L2.upd H5 m4 (.lst ((nints (codeOf p h os)).drop (at_ + 1)))) = H6 at s4 h4
    refine ⟨m3, m4, _, _, rfl, rfl, s4 _ _ h3, h4, Nat.le_of_lt (small1000 (by rw [List.length_append, tkl, List.length_drop]; show at_ + 1 + _ ≤ 1000; omega)), fun m5 n5 => ?_⟩
    have s5 := same_upd (o := HO.lst ((nints (codeOf p h os)).take at_ ++ [v] ++ (nints (codeOf p h os)).drop (at_ + 1))) n5
    have h5 := (upd_same : (L2.upd H6 m5 (.lst ((nints (codeOf p h os)).take at_ ++ [v] ++ (nints (codeOf p h os)).drop (at_ + 1)))) m5 = _)
    have sB := sA.trans (s4.trans s5)
    generalize (L2.upd H6 m5 (.lst ((nints (codeOf p h os)).take at_ ++ [v] ++ (nints (codeOf p h os)).drop (at_ + 1)))) = H7 at sB h5
    have J7 := J2.same sB
    have kv7 := kv2.keep (tk_of sB)
    clear J1 J2 e2 T2 kv kv2 s1 s2 s3 s4 s5 sA sB h1 h2 h3 h4 n1 n2 n3 n4 n5
    refine ⟨_, at_, rfl, .inr ⟨m5, _, rfl, h5, fun z hz => ?_, by rw [List.length_append, List.length_append, tkl, List.length_drop]; show at_ + 1 + _ ≤ 900; omega, cut_odd ok hat hv⟩, fun d2 H3 s3 hx => ⟨cE 13, 13, rfl, e15, .inr (.inr (.inr ⟨.inl rfl, xc, xf1, d2, at_, rfl, hx, fun u H4 s4 hu => one_lit (nm := "code") (n := at_) okc hu (fun k z => ⟨_, rfl, z⟩) fun H5 s5 => iteF ?_⟩))⟩⟩
    · rcases List.mem_append.mp hz with hz | hz
      · rcases List.mem_append.mp hz with hz | hz
        · exact knT_nints z (List.mem_of_mem_take hz)
        · obtain rfl := List.mem_singleton.mp hz
          exact kv7
      · exact knT_nints z (List.mem_of_mem_drop hz)
    have J5 := J7.same (s3.trans (s4.trans s5))
    clear J7 kv7 s3 s4 s5 hx hu h5
    refine ⟨fun σ' H' => ∃ (wr : Addr) (w : Nat), σ' = [some (.ref a), none, none, none, none, some (.int at_), none, some (.ref co), some (.ref d), some (.ref ex), none, some v, some (.ref wr), none] ∧ H' wr = some (.lst (nints (bodyC p h os) ++ [.int (w : Nat)])) ∧ w ≠ sumC (bodyC p h os) ∧ J20 d co (codeOf p h os) Pt qL H', ?_, ?_⟩
    · have hC := J5.C
      rw [nints_code] at hC
      refine ⟨_, rfl, _, rfl, -1, rfl, co, _, rfl, SqL.of hC, fun m1 n1 => ?_⟩
      rw [cut_lastV]
      have s1 := same_upd (o := HO.lst (nints (bodyC p h os))) n1
      have h1 := (upd_same : (L2.upd H5 m1 (.lst (nints (bodyC p h os)))) m1 = _)
      have m1d : m1 ≠ d := (ne_of_none J5.D.som.choose_spec n1).symm
      generalize (L2.upd H5 m1 (.lst (nints (bodyC p h os)))) = H6 at s1 h1
      have J6 := J5.same s1
      have s256 : sumC (bodyC p h os) < 256 := Nat.mod_lt _ (by decide)
      refine ⟨_, rfl, _, rfl, co, _, -1, _, rfl, rfl, SqL.of (s1 _ _ hC), atI_last _ _, _, _, rfl, rfl, _, rfl, d, 255, rfl, J6.D, by decide, by decide, fun H7 r hr7 b7 D7 => ⟨_, _, rfl, rfl, _, _, rfl, rfl, (by show (256 : Int) ≠ 0; decide), ?_⟩⟩
      have J7 := J6.butD b7 D7 cod
      have h1 := b7 _ _ m1d h1
      have ew : V.int ((((sumC (bodyC p h os) : Nat) : Int) + 1 + ((r : Nat) : Int)).fmod 256) = V.int (((sumC (bodyC p h os) + 1 + r) % 256 : Nat) : Int) := congrArg V.int (by
        show (((sumC (bodyC p h os) + 1 + r : Nat) : Int)).fmod ((256 : Nat) : Int) = _
        rw [fmod_nat])
      refine ⟨(by show 1 ≤ sizeLine; decide), fun m2 n2 => ?_⟩
      have s2 := same_upd (o := HO.lst [V.int ((((sumC (bodyC p h os) : Nat) : Int) + 1 + ((r : Nat) : Int)).fmod 256)]) n2
      have h2 := (upd_same : (L2.upd H7 m2 (.lst [V.int ((((sumC (bodyC p h os) : Nat) : Int) + 1 + ((r : Nat) : Int)).fmod 256)])) m2 = _)
      refine ⟨m1, m2, _, _, rfl, rfl, s2 _ _ h1, h2, Nat.le_of_lt (small1000 (by rw [nints_len', bodyC_len]; show _ + 1 ≤ 1000; omega)), fun m3 n3 => ?_⟩
      exact ⟨m3, (sumC (bodyC p h os) + 1 + r) % 256, rfl, by rw [upd_same, ew], by omega, J7.same (s2.trans (same_upd n3))⟩
    clear J5
    rintro σ H1 ⟨wr, w, rfl, hw, wne, J1⟩
    refine ⟨J1.T, fun H2 e2 T2 => ?_⟩
    have J2 := J1.extN e2 T2
    have hw2 := ExtN.lst e2 hw
    refine ⟨_, rfl, _, 4 + 5 * os.length, rfl, .inr ⟨wr, _, rfl, hw2, fun z hz => (List.mem_append.mp hz).elim (knT_nints z) (fun y => by rw [List.mem_singleton.mp y]; exact .int), by rw [List.length_append, nints_len', bodyC_len]; show _ + 1 ≤ 900; omega, cut_wrong ok wne⟩, fun d2 H3 s3 hx => ⟨cE 13, 13, rfl, e15, .inr (.inr (.inr ⟨.inl rfl, xc, xf1, d2, (4 + 5 * os.length), rfl, hx, fun u H4 s4 hu => one_lit (nm := "code") (n := (4 + 5 * os.length)) okc hu (fun k z => ⟨_, rfl, co, _, rfl, .inl (SqL.of ((s3.trans s4) _ _ J2.C)), _, _, rfl, rfl, by show k (V.int (((nints (codeOf p h os)).length : Nat) - 1)) _; rw [show (((nints (codeOf p h os)).length : Nat) : Int) - 1 = ((4 + 5 * os.length : Nat) : Int) by rw [cl]; omega]; exact z⟩) fun H5 s5 => iteF ?_⟩))⟩⟩
    have J5 := J2.same (s3.trans (s4.trans s5))
    clear J1 J2 e2 T2 s3 s4 s5 hx hu hw hw2 wne
    refine ⟨fun σ' H' => ∃ nv, σ' = [some (.ref a), none, none, none, none, some (.int at_), none, some (.ref co), some (.ref d), some (.ref ex), some nv, some v, some (.ref wr), none] ∧ KnT H' nv ∧ J20 d co (codeOf p h os) Pt qL H', ?_, ?_⟩
    · refine ⟨(by show 2 ≤ sizeLine; decide), fun u1 n1 => ?_⟩
      have s1 := same_upd (o := HO.tup [.int 78, .int 4]) n1
      have h1 := (upd_same : (L2.upd H5 u1 (.tup [.int 78, .int 4])) u1 = _)
      generalize (L2.upd H5 u1 (.tup [.int 78, .int 4])) = H6 at s1 h1
      refine ⟨(by show 5 ≤ sizeLine; decide), fun l nl => ?_⟩
      have s2 := same_upd (o := HO.lst [.non, .int 5, .ref u1, .str "a", .bl true]) nl
      have h2 := (upd_same : (L2.upd H6 l (.lst [.non, .int 5, .ref u1, .str "a", .bl true])) l = _)
      have ld : l ≠ d := (ne_of_none (s1 _ _ J5.D.som.choose_spec) nl).symm
      have J7 := J5.same (s1.trans s2)
      have h1 := s2 _ _ h1
      generalize (L2.upd H6 l (.lst [.non, .int 5, .ref u1, .str "a", .bl true])) = H7 at h2 J7 h1
      refine ⟨_, rfl, d, 5, rfl, J7.D, by decide, by decide, fun H8 r hr8 b8 D8 => ?_⟩
      have J8 := J7.butD b8 D8 cod
      have h2 := b8 _ _ ld h2
      have h1 := b8.tk J7.D _ _ h1
      match r, hr8 with
      | 0, _ => exact ⟨l, _, 0, _, rfl, rfl, SqL.of h2, atI_nat (j := 0) rfl, _, rfl, .non, J8⟩
      | 1, _ => exact ⟨l, _, 1, _, rfl, rfl, SqL.of h2, atI_nat (j := 1) rfl, _, rfl, .int, J8⟩
      | 2, _ => exact ⟨l, _, 2, _, rfl, rfl, SqL.of h2, atI_nat (j := 2) rfl, _, rfl, .tup h1, J8⟩
      | 3, _ => exact ⟨l, _, 3, _, rfl, rfl, SqL.of h2, atI_nat (j := 3) rfl, _, rfl, .str, J8⟩
      | 4, _ => exact ⟨l, _, 4, _, rfl, rfl, SqL.of h2, atI_nat (j := 4) rfl, _, rfl, .bl, J8⟩
      | r + 5, hz => exact absurd hz (by omega)
    clear J5
    rintro σ H1 ⟨nv, rfl, kv, J1⟩
    refine ⟨J1.T, fun H2 e2 T2 => ?_⟩
    have J2 := J1.extN e2 T2
    refine ⟨_, rfl, _, 0, rfl, .inl ⟨rfl, (kv.keep (ExtN.tk e2)).noList⟩, fun d2 H3 s3 hx => ⟨cE 13, 13, rfl, e15, .inr (.inr (.inr ⟨.inl rfl, xc, xf1, d2, 0, rfl, hx, fun u H4 s4 hu => one_lit (nm := "code") (n := 0) okc hu (fun k z => z) fun H5 s5 => iteF ?_⟩))⟩⟩
    have J5 := J2.same (s3.trans (s4.trans s5))
    clear J1 J2 e2 T2 s3 s4 s5 hx hu kv
    have hd5 := J5.D.choose_spec.choose_spec.choose_spec.2.2
    refine ⟨(by show 4 ≤ sizeLine; decide), fun hd nhd => ?_⟩
    skip
    have s_hd := same_upd (o := HO.lst [.int 78, .int 4, .int 3, .int 1]) nhd
    have h_hd := (upd_same : (L2.upd H5 hd (.lst [.int 78, .int 4, .int 3, .int 1])) hd = _)
    generalize (L2.upd H5 hd (.lst [.int 78, .int 4, .int 3, .int 1])) = C_hd at s_hd h_hd
    have SC := s_hd
    clear s_hd
    refine ⟨(by show 1 ≤ sizeLine; decide), fun l0 nl0 => ?_⟩
    have l0d : l0 ≠ d := (ne_of_none (SC _ _ hd5) nl0).symm
    have s_l0 := same_upd (o := HO.lst [.int 77]) nl0
    have h_l0 := (upd_same : (L2.upd C_hd l0 (.lst [.int 77])) l0 = _)
    generalize (L2.upd C_hd l0 (.lst [.int 77])) = C_l0 at s_l0 h_l0
    replace h_hd := s_l0 _ _ h_hd
    replace SC := SC.trans s_l0
    clear s_l0
    refine ⟨(by show 2 ≤ sizeLine; decide), fun p0 np0 => ?_⟩
    skip
    have s_p0 := same_upd (o := HO.tup [.ref l0, .int 0]) np0
    have h_p0 := (upd_same : (L2.upd C_l0 p0 (.tup [.ref l0, .int 0])) p0 = _)
    generalize (L2.upd C_l0 p0 (.tup [.ref l0, .int 0])) = C_p0 at s_p0 h_p0
    replace h_hd := s_p0 _ _ h_hd
    replace h_l0 := s_p0 _ _ h_l0
    replace SC := SC.trans s_p0
    clear s_p0
    refine ⟨(by show 2 ≤ sizeLine; decide), fun l1 nl1 => ?_⟩
    have l1d : l1 ≠ d := (ne_of_none (SC _ _ hd5) nl1).symm
    have s_l1 := same_upd (o := HO.lst [.int 78, .int 0]) nl1
    have h_l1 := (upd_same : (L2.upd C_p0 l1 (.lst [.int 78, .int 0])) l1 = _)
    generalize (L2.upd C_p0 l1 (.lst [.int 78, .int 0])) = C_l1 at s_l1 h_l1
    replace h_hd := s_l1 _ _ h_hd
    replace h_l0 := s_l1 _ _ h_l0
    replace h_p0 := s_l1 _ _ h_p0
    replace SC := SC.trans s_l1
    clear s_l1
    refine ⟨(by show 2 ≤ sizeLine; decide), fun p1 np1 => ?_⟩
    skip
    have s_p1 := same_upd (o := HO.tup [.ref l1, .int 1]) np1
    have h_p1 := (upd_same : (L2.upd C_l1 p1 (.tup [.ref l1, .int 1])) p1 = _)
    generalize (L2.upd C_l1 p1 (.tup [.ref l1, .int 1])) = C_p1 at s_p1 h_p1
    replace h_hd := s_p1 _ _ h_hd
    replace h_l0 := s_p1 _ _ h_l0
    replace h_p0 := s_p1 _ _ h_p0
    replace h_l1 := s_p1 _ _ h_l1
    replace SC := SC.trans s_p1
    clear s_p1
    refine ⟨(by show 2 ≤ sizeLine; decide), fun l2 nl2 => ?_⟩
    have l2d : l2 ≠ d := (ne_of_none (SC _ _ hd5) nl2).symm
    have s_l2 := same_upd (o := HO.lst [.int 78, .int 31]) nl2
    have h_l2 := (upd_same : (L2.upd C_p1 l2 (.lst [.int 78, .int 31])) l2 = _)
    generalize (L2.upd C_p1 l2 (.lst [.int 78, .int 31])) = C_l2 at s_l2 h_l2
    replace h_hd := s_l2 _ _ h_hd
    replace h_l0 := s_l2 _ _ h_l0
    replace h_p0 := s_l2 _ _ h_p0
    replace h_l1 := s_l2 _ _ h_l1
    replace h_p1 := s_l2 _ _ h_p1
    replace SC := SC.trans s_l2
    clear s_l2
    refine ⟨(by show 2 ≤ sizeLine; decide), fun p2 np2 => ?_⟩
    skip
    have s_p2 := same_upd (o := HO.tup [.ref l2, .int 1]) np2
    have h_p2 := (upd_same : (L2.upd C_l2 p2 (.tup [.ref l2, .int 1])) p2 = _)
    generalize (L2.upd C_l2 p2 (.tup [.ref l2, .int 1])) = C_p2 at s_p2 h_p2
    replace h_hd := s_p2 _ _ h_hd
    replace h_l0 := s_p2 _ _ h_l0
    replace h_p0 := s_p2 _ _ h_p0
    replace h_l1 := s_p2 _ _ h_l1
    replace h_p1 := s_p2 _ _ h_p1
    replace h_l2 := s_p2 _ _ h_l2
    replace SC := SC.trans s_p2
    clear s_p2
    refine ⟨(by show 3 ≤ sizeLine; decide), fun l3 nl3 => ?_⟩
    have l3d : l3 ≠ d := (ne_of_none (SC _ _ hd5) nl3).symm
    have s_l3 := same_upd (o := HO.lst [.int 78, .int 4, .int 0]) nl3
    have h_l3 := (upd_same : (L2.upd C_p2 l3 (.lst [.int 78, .int 4, .int 0])) l3 = _)
    generalize (L2.upd C_p2 l3 (.lst [.int 78, .int 4, .int 0])) = C_l3 at s_l3 h_l3
    replace h_hd := s_l3 _ _ h_hd
    replace h_l0 := s_l3 _ _ h_l0
    replace h_p0 := s_l3 _ _ h_p0
    replace h_l1 := s_l3 _ _ h_l1
    replace h_p1 := s_l3 _ _ h_p1
    replace h_l2 := s_l3 _ _ h_l2
    replace h_p2 := s_l3 _ _ h_p2
    replace SC := SC.trans s_l3
    clear s_l3
    refine ⟨(by show 2 ≤ sizeLine; decide), fun p3 np3 => ?_⟩
    skip
    have s_p3 := same_upd (o := HO.tup [.ref l3, .int 2]) np3
    have h_p3 := (upd_same : (L2.upd C_l3 p3 (.tup [.ref l3, .int 2])) p3 = _)
    generalize (L2.upd C_l3 p3 (.tup [.ref l3, .int 2])) = C_p3 at s_p3 h_p3
    replace h_hd := s_p3 _ _ h_hd
    replace h_l0 := s_p3 _ _ h_l0
    replace h_p0 := s_p3 _ _ h_p0
    replace h_l1 := s_p3 _ _ h_l1
    replace h_p1 := s_p3 _ _ h_p1
    replace h_l2 := s_p3 _ _ h_l2
    replace h_p2 := s_p3 _ _ h_p2
    replace h_l3 := s_p3 _ _ h_l3
    replace SC := SC.trans s_p3
    clear s_p3
    refine ⟨(by show 3 ≤ sizeLine; decide), fun l4 nl4 => ?_⟩
    have l4d : l4 ≠ d := (ne_of_none (SC _ _ hd5) nl4).symm
    have s_l4 := same_upd (o := HO.lst [.int 78, .int 4, .int 11]) nl4
    have h_l4 := (upd_same : (L2.upd C_p3 l4 (.lst [.int 78, .int 4, .int 11])) l4 = _)
    generalize (L2.upd C_p3 l4 (.lst [.int 78, .int 4, .int 11])) = C_l4 at s_l4 h_l4
    replace h_hd := s_l4 _ _ h_hd
    replace h_l0 := s_l4 _ _ h_l0
    replace h_p0 := s_l4 _ _ h_p0
    replace h_l1 := s_l4 _ _ h_l1
    replace h_p1 := s_l4 _ _ h_p1
    replace h_l2 := s_l4 _ _ h_l2
    replace h_p2 := s_l4 _ _ h_p2
    replace h_l3 := s_l4 _ _ h_l3
    replace h_p3 := s_l4 _ _ h_p3
    replace SC := SC.trans s_l4
    clear s_l4
    refine ⟨(by show 2 ≤ sizeLine; decide), fun p4 np4 => ?_⟩
    skip
    have s_p4 := same_upd (o := HO.tup [.ref l4, .int 2]) np4
    have h_p4 := (upd_same : (L2.upd C_l4 p4 (.tup [.ref l4, .int 2])) p4 = _)
    generalize (L2.upd C_l4 p4 (.tup [.ref l4, .int 2])) = C_p4 at s_p4 h_p4
    replace h_hd := s_p4 _ _ h_hd
    replace h_l0 := s_p4 _ _ h_l0
    replace h_p0 := s_p4 _ _ h_p0
    replace h_l1 := s_p4 _ _ h_l1
    replace h_p1 := s_p4 _ _ h_p1
    replace h_l2 := s_p4 _ _ h_l2
    replace h_p2 := s_p4 _ _ h_p2
    replace h_l3 := s_p4 _ _ h_l3
    replace h_p3 := s_p4 _ _ h_p3
    replace h_l4 := s_p4 _ _ h_l4
    replace SC := SC.trans s_p4
    clear s_p4
    refine ⟨(by show 4 ≤ sizeLine; decide), fun l5 nl5 => ?_⟩
    have l5d : l5 ≠ d := (ne_of_none (SC _ _ hd5) nl5).symm
    have s_l5 := same_upd (o := HO.lst [.int 78, .int 4, .int 3, .int 21]) nl5
    have h_l5 := (upd_same : (L2.upd C_p4 l5 (.lst [.int 78, .int 4, .int 3, .int 21])) l5 = _)
    generalize (L2.upd C_p4 l5 (.lst [.int 78, .int 4, .int 3, .int 21])) = C_l5 at s_l5 h_l5
    replace h_hd := s_l5 _ _ h_hd
    replace h_l0 := s_l5 _ _ h_l0
    replace h_p0 := s_l5 _ _ h_p0
    replace h_l1 := s_l5 _ _ h_l1
    replace h_p1 := s_l5 _ _ h_p1
    replace h_l2 := s_l5 _ _ h_l2
    replace h_p2 := s_l5 _ _ h_p2
    replace h_l3 := s_l5 _ _ h_l3
    replace h_p3 := s_l5 _ _ h_p3
    replace h_l4 := s_l5 _ _ h_l4
    replace h_p4 := s_l5 _ _ h_p4
    replace SC := SC.trans s_l5
    clear s_l5
    refine ⟨(by show 2 ≤ sizeLine; decide), fun p5 np5 => ?_⟩
    skip
    have s_p5 := same_upd (o := HO.tup [.ref l5, .int 3]) np5
    have h_p5 := (upd_same : (L2.upd C_l5 p5 (.tup [.ref l5, .int 3])) p5 = _)
    generalize (L2.upd C_l5 p5 (.tup [.ref l5, .int 3])) = C_p5 at s_p5 h_p5
    replace h_hd := s_p5 _ _ h_hd
    replace h_l0 := s_p5 _ _ h_l0
    replace h_p0 := s_p5 _ _ h_p0
    replace h_l1 := s_p5 _ _ h_l1
    replace h_p1 := s_p5 _ _ h_p1
    replace h_l2 := s_p5 _ _ h_l2
    replace h_p2 := s_p5 _ _ h_p2
    replace h_l3 := s_p5 _ _ h_l3
    replace h_p3 := s_p5 _ _ h_p3
    replace h_l4 := s_p5 _ _ h_l4
    replace h_p4 := s_p5 _ _ h_p4
    replace h_l5 := s_p5 _ _ h_l5
    replace SC := SC.trans s_p5
    clear s_p5
    refine ⟨(by show 6 ≤ sizeLine; decide), fun q1 nq1 => ?_⟩
    skip
    have s_q1 := same_upd (o := HO.lst [.ref p0, .ref p1, .ref p2, .ref p3, .ref p4, .ref p5]) nq1
    have h_q1 := (upd_same : (L2.upd C_p5 q1 (.lst [.ref p0, .ref p1, .ref p2, .ref p3, .ref p4, .ref p5])) q1 = _)
    generalize (L2.upd C_p5 q1 (.lst [.ref p0, .ref p1, .ref p2, .ref p3, .ref p4, .ref p5])) = C_q1 at s_q1 h_q1
    replace h_hd := s_q1 _ _ h_hd
    replace h_l0 := s_q1 _ _ h_l0
    replace h_p0 := s_q1 _ _ h_p0
    replace h_l1 := s_q1 _ _ h_l1
    replace h_p1 := s_q1 _ _ h_p1
    replace h_l2 := s_q1 _ _ h_l2
    replace h_p2 := s_q1 _ _ h_p2
    replace h_l3 := s_q1 _ _ h_l3
    replace h_p3 := s_q1 _ _ h_p3
    replace h_l4 := s_q1 _ _ h_l4
    replace h_p4 := s_q1 _ _ h_p4
    replace h_l5 := s_q1 _ _ h_l5
    replace h_p5 := s_q1 _ _ h_p5
    replace SC := SC.trans s_q1
    clear s_q1
    refine ⟨_, rfl, (by show 4 ≤ sizeLine; decide), fun l6 nl6 => ?_⟩
    have l6d : l6 ≠ d := (ne_of_none (SC _ _ hd5) nl6).symm
    have s_l6 := same_upd (o := HO.lst [.int 78, .int 4, .int 1, .int 1]) nl6
    have h_l6 := (upd_same : (L2.upd C_q1 l6 (.lst [.int 78, .int 4, .int 1, .int 1])) l6 = _)
    generalize (L2.upd C_q1 l6 (.lst [.int 78, .int 4, .int 1, .int 1])) = C_l6 at s_l6 h_l6
    replace h_hd := s_l6 _ _ h_hd
    replace h_l0 := s_l6 _ _ h_l0
    replace h_p0 := s_l6 _ _ h_p0
    replace h_l1 := s_l6 _ _ h_l1
    replace h_p1 := s_l6 _ _ h_p1
    replace h_l2 := s_l6 _ _ h_l2
    replace h_p2 := s_l6 _ _ h_p2
    replace h_l3 := s_l6 _ _ h_l3
    replace h_p3 := s_l6 _ _ h_p3
    replace h_l4 := s_l6 _ _ h_l4
    replace h_p4 := s_l6 _ _ h_p4
    replace h_l5 := s_l6 _ _ h_l5
    replace h_p5 := s_l6 _ _ h_p5
    replace h_q1 := s_l6 _ _ h_q1
    replace SC := SC.trans s_l6
    clear s_l6
    refine ⟨(by show 2 ≤ sizeLine; decide), fun p6 np6 => ?_⟩
    skip
    have s_p6 := same_upd (o := HO.tup [.ref l6, .int 3]) np6
    have h_p6 := (upd_same : (L2.upd C_l6 p6 (.tup [.ref l6, .int 3])) p6 = _)
    generalize (L2.upd C_l6 p6 (.tup [.ref l6, .int 3])) = C_p6 at s_p6 h_p6
    replace h_hd := s_p6 _ _ h_hd
    replace h_l0 := s_p6 _ _ h_l0
    replace h_p0 := s_p6 _ _ h_p0
    replace h_l1 := s_p6 _ _ h_l1
    replace h_p1 := s_p6 _ _ h_p1
    replace h_l2 := s_p6 _ _ h_l2
    replace h_p2 := s_p6 _ _ h_p2
    replace h_l3 := s_p6 _ _ h_l3
    replace h_p3 := s_p6 _ _ h_p3
    replace h_l4 := s_p6 _ _ h_l4
    replace h_p4 := s_p6 _ _ h_p4
    replace h_l5 := s_p6 _ _ h_l5
    replace h_p5 := s_p6 _ _ h_p5
    replace h_q1 := s_p6 _ _ h_q1
    replace h_l6 := s_p6 _ _ h_l6
    replace SC := SC.trans s_p6
    clear s_p6
    refine ⟨_, rfl, (by show 1 ≤ sizeLine; decide), fun e7 ne7 => ?_⟩
    skip
    have s_e7 := same_upd (o := HO.lst [.int 3]) ne7
    have h_e7 := (upd_same : (L2.upd C_p6 e7 (.lst [.int 3])) e7 = _)
    generalize (L2.upd C_p6 e7 (.lst [.int 3])) = C_e7 at s_e7 h_e7
    replace h_hd := s_e7 _ _ h_hd
    replace h_l0 := s_e7 _ _ h_l0
    replace h_p0 := s_e7 _ _ h_p0
    replace h_l1 := s_e7 _ _ h_l1
    replace h_p1 := s_e7 _ _ h_p1
    replace h_l2 := s_e7 _ _ h_l2
    replace h_p2 := s_e7 _ _ h_p2
    replace h_l3 := s_e7 _ _ h_l3
    replace h_p3 := s_e7 _ _ h_p3
    replace h_l4 := s_e7 _ _ h_l4
    replace h_p4 := s_e7 _ _ h_p4
    replace h_l5 := s_e7 _ _ h_l5
    replace h_p5 := s_e7 _ _ h_p5
    replace h_q1 := s_e7 _ _ h_q1
    replace h_l6 := s_e7 _ _ h_l6
    replace h_p6 := s_e7 _ _ h_p6
    replace SC := SC.trans s_e7
    clear s_e7
    refine ⟨hd, e7, _, _, rfl, rfl, h_hd, h_e7, (by show 4 + 1 ≤ sizeLine; decide), fun l7 nl7 => ?_⟩
    have l7d : l7 ≠ d := (ne_of_none (SC _ _ hd5) nl7).symm
    have s_l7 := same_upd (o := HO.lst ([.int 78, .int 4, .int 3, .int 1] ++ [.int 3])) nl7
    have h_l7 := (upd_same : (L2.upd C_e7 l7 (.lst ([.int 78, .int 4, .int 3, .int 1] ++ [.int 3]))) l7 = _)
    generalize (L2.upd C_e7 l7 (.lst ([.int 78, .int 4, .int 3, .int 1] ++ [.int 3]))) = C_l7 at s_l7 h_l7
    replace h_hd := s_l7 _ _ h_hd
    replace h_l0 := s_l7 _ _ h_l0
    replace h_p0 := s_l7 _ _ h_p0
    replace h_l1 := s_l7 _ _ h_l1
    replace h_p1 := s_l7 _ _ h_p1
    replace h_l2 := s_l7 _ _ h_l2
    replace h_p2 := s_l7 _ _ h_p2
    replace h_l3 := s_l7 _ _ h_l3
    replace h_p3 := s_l7 _ _ h_p3
    replace h_l4 := s_l7 _ _ h_l4
    replace h_p4 := s_l7 _ _ h_p4
    replace h_l5 := s_l7 _ _ h_l5
    replace h_p5 := s_l7 _ _ h_p5
    replace h_q1 := s_l7 _ _ h_q1
    replace h_l6 := s_l7 _ _ h_l6
    replace h_p6 := s_l7 _ _ h_p6
    replace SC := SC.trans s_l7
    clear s_l7 h_e7
    refine ⟨(by show 2 ≤ sizeLine; decide), fun p7 np7 => ?_⟩
    skip
    have s_p7 := same_upd (o := HO.tup [.ref l7, .int 4]) np7
    have h_p7 := (upd_same : (L2.upd C_l7 p7 (.tup [.ref l7, .int 4])) p7 = _)
    generalize (L2.upd C_l7 p7 (.tup [.ref l7, .int 4])) = C_p7 at s_p7 h_p7
    replace h_hd := s_p7 _ _ h_hd
    replace h_l0 := s_p7 _ _ h_l0
    replace h_p0 := s_p7 _ _ h_p0
    replace h_l1 := s_p7 _ _ h_l1
    replace h_p1 := s_p7 _ _ h_p1
    replace h_l2 := s_p7 _ _ h_l2
    replace h_p2 := s_p7 _ _ h_p2
    replace h_l3 := s_p7 _ _ h_l3
    replace h_p3 := s_p7 _ _ h_p3
    replace h_l4 := s_p7 _ _ h_l4
    replace h_p4 := s_p7 _ _ h_p4
    replace h_l5 := s_p7 _ _ h_l5
    replace h_p5 := s_p7 _ _ h_p5
    replace h_q1 := s_p7 _ _ h_q1
    replace h_l6 := s_p7 _ _ h_l6
    replace h_p6 := s_p7 _ _ h_p6
    replace h_l7 := s_p7 _ _ h_l7
    replace SC := SC.trans s_p7
    clear s_p7
    refine ⟨_, rfl, (by show 2 ≤ sizeLine; decide), fun e8 ne8 => ?_⟩
    skip
    have s_e8 := same_upd (o := HO.lst [.int 0, .int 3]) ne8
    have h_e8 := (upd_same : (L2.upd C_p7 e8 (.lst [.int 0, .int 3])) e8 = _)
    generalize (L2.upd C_p7 e8 (.lst [.int 0, .int 3])) = C_e8 at s_e8 h_e8
    replace h_hd := s_e8 _ _ h_hd
    replace h_l0 := s_e8 _ _ h_l0
    replace h_p0 := s_e8 _ _ h_p0
    replace h_l1 := s_e8 _ _ h_l1
    replace h_p1 := s_e8 _ _ h_p1
    replace h_l2 := s_e8 _ _ h_l2
    replace h_p2 := s_e8 _ _ h_p2
    replace h_l3 := s_e8 _ _ h_l3
    replace h_p3 := s_e8 _ _ h_p3
    replace h_l4 := s_e8 _ _ h_l4
    replace h_p4 := s_e8 _ _ h_p4
    replace h_l5 := s_e8 _ _ h_l5
    replace h_p5 := s_e8 _ _ h_p5
    replace h_q1 := s_e8 _ _ h_q1
    replace h_l6 := s_e8 _ _ h_l6
    replace h_p6 := s_e8 _ _ h_p6
    replace h_l7 := s_e8 _ _ h_l7
    replace h_p7 := s_e8 _ _ h_p7
    replace SC := SC.trans s_e8
    clear s_e8
    refine ⟨hd, e8, _, _, rfl, rfl, h_hd, h_e8, (by show 4 + 2 ≤ sizeLine; decide), fun l8 nl8 => ?_⟩
    have l8d : l8 ≠ d := (ne_of_none (SC _ _ hd5) nl8).symm
    have s_l8 := same_upd (o := HO.lst ([.int 78, .int 4, .int 3, .int 1] ++ [.int 0, .int 3])) nl8
    have h_l8 := (upd_same : (L2.upd C_e8 l8 (.lst ([.int 78, .int 4, .int 3, .int 1] ++ [.int 0, .int 3]))) l8 = _)
    generalize (L2.upd C_e8 l8 (.lst ([.int 78, .int 4, .int 3, .int 1] ++ [.int 0, .int 3]))) = C_l8 at s_l8 h_l8
    replace h_hd := s_l8 _ _ h_hd
    replace h_l0 := s_l8 _ _ h_l0
    replace h_p0 := s_l8 _ _ h_p0
    replace h_l1 := s_l8 _ _ h_l1
    replace h_p1 := s_l8 _ _ h_p1
    replace h_l2 := s_l8 _ _ h_l2
    replace h_p2 := s_l8 _ _ h_p2
    replace h_l3 := s_l8 _ _ h_l3
    replace h_p3 := s_l8 _ _ h_p3
    replace h_l4 := s_l8 _ _ h_l4
    replace h_p4 := s_l8 _ _ h_p4
    replace h_l5 := s_l8 _ _ h_l5
    replace h_p5 := s_l8 _ _ h_p5
    replace h_q1 := s_l8 _ _ h_q1
    replace h_l6 := s_l8 _ _ h_l6
    replace h_p6 := s_l8 _ _ h_p6
    replace h_l7 := s_l8 _ _ h_l7
    replace h_p7 := s_l8 _ _ h_p7
    replace SC := SC.trans s_l8
    clear s_l8 h_e8
    refine ⟨(by show 2 ≤ sizeLine; decide), fun p8 np8 => ?_⟩
    skip
    have s_p8 := same_upd (o := HO.tup [.ref l8, .int 5]) np8
    have h_p8 := (upd_same : (L2.upd C_l8 p8 (.tup [.ref l8, .int 5])) p8 = _)
    generalize (L2.upd C_l8 p8 (.tup [.ref l8, .int 5])) = C_p8 at s_p8 h_p8
    replace h_hd := s_p8 _ _ h_hd
    replace h_l0 := s_p8 _ _ h_l0
    replace h_p0 := s_p8 _ _ h_p0
    replace h_l1 := s_p8 _ _ h_l1
    replace h_p1 := s_p8 _ _ h_p1
    replace h_l2 := s_p8 _ _ h_l2
    replace h_p2 := s_p8 _ _ h_p2
    replace h_l3 := s_p8 _ _ h_l3
    replace h_p3 := s_p8 _ _ h_p3
    replace h_l4 := s_p8 _ _ h_l4
    replace h_p4 := s_p8 _ _ h_p4
    replace h_l5 := s_p8 _ _ h_l5
    replace h_p5 := s_p8 _ _ h_p5
    replace h_q1 := s_p8 _ _ h_q1
    replace h_l6 := s_p8 _ _ h_l6
    replace h_p6 := s_p8 _ _ h_p6
    replace h_l7 := s_p8 _ _ h_l7
    replace h_p7 := s_p8 _ _ h_p7
    replace h_l8 := s_p8 _ _ h_l8
    replace SC := SC.trans s_p8
    clear s_p8
    refine ⟨_, rfl, (by show 2 ≤ sizeLine; decide), fun e9 ne9 => ?_⟩
    skip
    have s_e9 := same_upd (o := HO.lst [.int 2, .int 2]) ne9
    have h_e9 := (upd_same : (L2.upd C_p8 e9 (.lst [.int 2, .int 2])) e9 = _)
    generalize (L2.upd C_p8 e9 (.lst [.int 2, .int 2])) = C_e9 at s_e9 h_e9
    replace h_hd := s_e9 _ _ h_hd
    replace h_l0 := s_e9 _ _ h_l0
    replace h_p0 := s_e9 _ _ h_p0
    replace h_l1 := s_e9 _ _ h_l1
    replace h_p1 := s_e9 _ _ h_p1
    replace h_l2 := s_e9 _ _ h_l2
    replace h_p2 := s_e9 _ _ h_p2
    replace h_l3 := s_e9 _ _ h_l3
    replace h_p3 := s_e9 _ _ h_p3
    replace h_l4 := s_e9 _ _ h_l4
    replace h_p4 := s_e9 _ _ h_p4
    replace h_l5 := s_e9 _ _ h_l5
    replace h_p5 := s_e9 _ _ h_p5
    replace h_q1 := s_e9 _ _ h_q1
    replace h_l6 := s_e9 _ _ h_l6
    replace h_p6 := s_e9 _ _ h_p6
    replace h_l7 := s_e9 _ _ h_l7
    replace h_p7 := s_e9 _ _ h_p7
    replace h_l8 := s_e9 _ _ h_l8
    replace h_p8 := s_e9 _ _ h_p8
    replace SC := SC.trans s_e9
    clear s_e9
    refine ⟨hd, e9, _, _, rfl, rfl, h_hd, h_e9, (by show 4 + 2 ≤ sizeLine; decide), fun l9 nl9 => ?_⟩
    have l9d : l9 ≠ d := (ne_of_none (SC _ _ hd5) nl9).symm
    have s_l9 := same_upd (o := HO.lst ([.int 78, .int 4, .int 3, .int 1] ++ [.int 2, .int 2])) nl9
    have h_l9 := (upd_same : (L2.upd C_e9 l9 (.lst ([.int 78, .int 4, .int 3, .int 1] ++ [.int 2, .int 2]))) l9 = _)
    generalize (L2.upd C_e9 l9 (.lst ([.int 78, .int 4, .int 3, .int 1] ++ [.int 2, .int 2]))) = C_l9 at s_l9 h_l9
    replace h_hd := s_l9 _ _ h_hd
    replace h_l0 := s_l9 _ _ h_l0
    replace h_p0 := s_l9 _ _ h_p0
    replace h_l1 := s_l9 _ _ h_l1
    replace h_p1 := s_l9 _ _ h_p1
    replace h_l2 := s_l9 _ _ h_l2
    replace h_p2 := s_l9 _ _ h_p2
    replace h_l3 := s_l9 _ _ h_l3
    replace h_p3 := s_l9 _ _ h_p3
    replace h_l4 := s_l9 _ _ h_l4
    replace h_p4 := s_l9 _ _ h_p4
    replace h_l5 := s_l9 _ _ h_l5
    replace h_p5 := s_l9 _ _ h_p5
    replace h_q1 := s_l9 _ _ h_q1
    replace h_l6 := s_l9 _ _ h_l6
    replace h_p6 := s_l9 _ _ h_p6
    replace h_l7 := s_l9 _ _ h_l7
    replace h_p7 := s_l9 _ _ h_p7
    replace h_l8 := s_l9 _ _ h_l8
    replace h_p8 := s_l9 _ _ h_p8
    replace SC := SC.trans s_l9
    clear s_l9 h_e9
    refine ⟨(by show 2 ≤ sizeLine; decide), fun p9 np9 => ?_⟩
    skip
    have s_p9 := same_upd (o := HO.tup [.ref l9, .int 5]) np9
    have h_p9 := (upd_same : (L2.upd C_l9 p9 (.tup [.ref l9, .int 5])) p9 = _)
    generalize (L2.upd C_l9 p9 (.tup [.ref l9, .int 5])) = C_p9 at s_p9 h_p9
    replace h_hd := s_p9 _ _ h_hd
    replace h_l0 := s_p9 _ _ h_l0
    replace h_p0 := s_p9 _ _ h_p0
    replace h_l1 := s_p9 _ _ h_l1
    replace h_p1 := s_p9 _ _ h_p1
    replace h_l2 := s_p9 _ _ h_l2
    replace h_p2 := s_p9 _ _ h_p2
    replace h_l3 := s_p9 _ _ h_l3
    replace h_p3 := s_p9 _ _ h_p3
    replace h_l4 := s_p9 _ _ h_l4
    replace h_p4 := s_p9 _ _ h_p4
    replace h_l5 := s_p9 _ _ h_l5
    replace h_p5 := s_p9 _ _ h_p5
    replace h_q1 := s_p9 _ _ h_q1
    replace h_l6 := s_p9 _ _ h_l6
    replace h_p6 := s_p9 _ _ h_p6
    replace h_l7 := s_p9 _ _ h_l7
    replace h_p7 := s_p9 _ _ h_p7
    replace h_l8 := s_p9 _ _ h_l8
    replace h_p8 := s_p9 _ _ h_p8
    replace h_l9 := s_p9 _ _ h_l9
    replace SC := SC.trans s_p9
    clear s_p9
    refine ⟨_, rfl, (by show 3 ≤ sizeLine; decide), fun e10 ne10 => ?_⟩
    skip
    have s_e10 := same_upd (o := HO.lst [.int 0, .int 1, .int 4]) ne10
    have h_e10 := (upd_same : (L2.upd C_p9 e10 (.lst [.int 0, .int 1, .int 4])) e10 = _)
    generalize (L2.upd C_p9 e10 (.lst [.int 0, .int 1, .int 4])) = C_e10 at s_e10 h_e10
    replace h_hd := s_e10 _ _ h_hd
    replace h_l0 := s_e10 _ _ h_l0
    replace h_p0 := s_e10 _ _ h_p0
    replace h_l1 := s_e10 _ _ h_l1
    replace h_p1 := s_e10 _ _ h_p1
    replace h_l2 := s_e10 _ _ h_l2
    replace h_p2 := s_e10 _ _ h_p2
    replace h_l3 := s_e10 _ _ h_l3
    replace h_p3 := s_e10 _ _ h_p3
    replace h_l4 := s_e10 _ _ h_l4
    replace h_p4 := s_e10 _ _ h_p4
    replace h_l5 := s_e10 _ _ h_l5
    replace h_p5 := s_e10 _ _ h_p5
    replace h_q1 := s_e10 _ _ h_q1
    replace h_l6 := s_e10 _ _ h_l6
    replace h_p6 := s_e10 _ _ h_p6
    replace h_l7 := s_e10 _ _ h_l7
    replace h_p7 := s_e10 _ _ h_p7
    replace h_l8 := s_e10 _ _ h_l8
    replace h_p8 := s_e10 _ _ h_p8
    replace h_l9 := s_e10 _ _ h_l9
    replace h_p9 := s_e10 _ _ h_p9
    replace SC := SC.trans s_e10
    clear s_e10
    refine ⟨hd, e10, _, _, rfl, rfl, h_hd, h_e10, (by show 4 + 3 ≤ sizeLine; decide), fun l10 nl10 => ?_⟩
    have l10d : l10 ≠ d := (ne_of_none (SC _ _ hd5) nl10).symm
    have s_l10 := same_upd (o := HO.lst ([.int 78, .int 4, .int 3, .int 1] ++ [.int 0, .int 1, .int 4])) nl10
    have h_l10 := (upd_same : (L2.upd C_e10 l10 (.lst ([.int 78, .int 4, .int 3, .int 1] ++ [.int 0, .int 1, .int 4]))) l10 = _)
    generalize (L2.upd C_e10 l10 (.lst ([.int 78, .int 4, .int 3, .int 1] ++ [.int 0, .int 1, .int 4]))) = C_l10 at s_l10 h_l10
    replace h_hd := s_l10 _ _ h_hd
    replace h_l0 := s_l10 _ _ h_l0
    replace h_p0 := s_l10 _ _ h_p0
    replace h_l1 := s_l10 _ _ h_l1
    replace h_p1 := s_l10 _ _ h_p1
    replace h_l2 := s_l10 _ _ h_l2
    replace h_p2 := s_l10 _ _ h_p2
    replace h_l3 := s_l10 _ _ h_l3
    replace h_p3 := s_l10 _ _ h_p3
    replace h_l4 := s_l10 _ _ h_l4
    replace h_p4 := s_l10 _ _ h_p4
    replace h_l5 := s_l10 _ _ h_l5
    replace h_p5 := s_l10 _ _ h_p5
    replace h_q1 := s_l10 _ _ h_q1
    replace h_l6 := s_l10 _ _ h_l6
    replace h_p6 := s_l10 _ _ h_p6
    replace h_l7 := s_l10 _ _ h_l7
    replace h_p7 := s_l10 _ _ h_p7
    replace h_l8 := s_l10 _ _ h_l8
    replace h_p8 := s_l10 _ _ h_p8
    replace h_l9 := s_l10 _ _ h_l9
    replace h_p9 := s_l10 _ _ h_p9
    replace SC := SC.trans s_l10
    clear s_l10 h_e10
    refine ⟨(by show 2 ≤ sizeLine; decide), fun p10 np10 => ?_⟩
    skip
    have s_p10 := same_upd (o := HO.tup [.ref l10, .int 6]) np10
    have h_p10 := (upd_same : (L2.upd C_l10 p10 (.tup [.ref l10, .int 6])) p10 = _)
    generalize (L2.upd C_l10 p10 (.tup [.ref l10, .int 6])) = C_p10 at s_p10 h_p10
    replace h_hd := s_p10 _ _ h_hd
    replace h_l0 := s_p10 _ _ h_l0
    replace h_p0 := s_p10 _ _ h_p0
    replace h_l1 := s_p10 _ _ h_l1
    replace h_p1 := s_p10 _ _ h_p1
    replace h_l2 := s_p10 _ _ h_l2
    replace h_p2 := s_p10 _ _ h_p2
    replace h_l3 := s_p10 _ _ h_l3
    replace h_p3 := s_p10 _ _ h_p3
    replace h_l4 := s_p10 _ _ h_l4
    replace h_p4 := s_p10 _ _ h_p4
    replace h_l5 := s_p10 _ _ h_l5
    replace h_p5 := s_p10 _ _ h_p5
    replace h_q1 := s_p10 _ _ h_q1
    replace h_l6 := s_p10 _ _ h_l6
    replace h_p6 := s_p10 _ _ h_p6
    replace h_l7 := s_p10 _ _ h_l7
    replace h_p7 := s_p10 _ _ h_p7
    replace h_l8 := s_p10 _ _ h_l8
    replace h_p8 := s_p10 _ _ h_p8
    replace h_l9 := s_p10 _ _ h_l9
    replace h_p9 := s_p10 _ _ h_p9
    replace h_l10 := s_p10 _ _ h_l10
    replace SC := SC.trans s_p10
    clear s_p10
    refine ⟨(by show 5 ≤ sizeLine; decide), fun q2 nq2 => ?_⟩
    skip
    have s_q2 := same_upd (o := HO.lst [.ref p6, .ref p7, .ref p8, .ref p9, .ref p10]) nq2
    have h_q2 := (upd_same : (L2.upd C_p10 q2 (.lst [.ref p6, .ref p7, .ref p8, .ref p9, .ref p10])) q2 = _)
    generalize (L2.upd C_p10 q2 (.lst [.ref p6, .ref p7, .ref p8, .ref p9, .ref p10])) = C_q2 at s_q2 h_q2
    replace h_hd := s_q2 _ _ h_hd
    replace h_l0 := s_q2 _ _ h_l0
    replace h_p0 := s_q2 _ _ h_p0
    replace h_l1 := s_q2 _ _ h_l1
    replace h_p1 := s_q2 _ _ h_p1
    replace h_l2 := s_q2 _ _ h_l2
    replace h_p2 := s_q2 _ _ h_p2
    replace h_l3 := s_q2 _ _ h_l3
    replace h_p3 := s_q2 _ _ h_p3
    replace h_l4 := s_q2 _ _ h_l4
    replace h_p4 := s_q2 _ _ h_p4
    replace h_l5 := s_q2 _ _ h_l5
    replace h_p5 := s_q2 _ _ h_p5
    replace h_q1 := s_q2 _ _ h_q1
    replace h_l6 := s_q2 _ _ h_l6
    replace h_p6 := s_q2 _ _ h_p6
    replace h_l7 := s_q2 _ _ h_l7
    replace h_p7 := s_q2 _ _ h_p7
    replace h_l8 := s_q2 _ _ h_l8
    replace h_p8 := s_q2 _ _ h_p8
    replace h_l9 := s_q2 _ _ h_l9
    replace h_p9 := s_q2 _ _ h_p9
    replace h_l10 := s_q2 _ _ h_l10
    replace h_p10 := s_q2 _ _ h_p10
    replace SC := SC.trans s_q2
    clear s_q2
    refine ⟨q1, q2, _, _, rfl, rfl, h_q1, h_q2, (by show 6 + 5 ≤ sizeLine; decide), fun q3 nq3 => ?_⟩
    have s_q3 := same_upd (o := HO.lst ([.ref p0, .ref p1, .ref p2, .ref p3, .ref p4, .ref p5] ++ [.ref p6, .ref p7, .ref p8, .ref p9, .ref p10])) nq3
    have h_q3 := (upd_same : (L2.upd C_q2 q3 (.lst ([.ref p0, .ref p1, .ref p2, .ref p3, .ref p4, .ref p5] ++ [.ref p6, .ref p7, .ref p8, .ref p9, .ref p10]))) q3 = _)
    generalize (L2.upd C_q2 q3 (.lst ([.ref p0, .ref p1, .ref p2, .ref p3, .ref p4, .ref p5] ++ [.ref p6, .ref p7, .ref p8, .ref p9, .ref p10]))) = C_q3 at s_q3 h_q3
    replace h_hd := s_q3 _ _ h_hd
    replace h_l0 := s_q3 _ _ h_l0
    replace h_p0 := s_q3 _ _ h_p0
    replace h_l1 := s_q3 _ _ h_l1
    replace h_p1 := s_q3 _ _ h_p1
    replace h_l2 := s_q3 _ _ h_l2
    replace h_p2 := s_q3 _ _ h_p2
    replace h_l3 := s_q3 _ _ h_l3
    replace h_p3 := s_q3 _ _ h_p3
    replace h_l4 := s_q3 _ _ h_l4
    replace h_p4 := s_q3 _ _ h_p4
    replace h_l5 := s_q3 _ _ h_l5
    replace h_p5 := s_q3 _ _ h_p5
    replace h_l6 := s_q3 _ _ h_l6
    replace h_p6 := s_q3 _ _ h_p6
    replace h_l7 := s_q3 _ _ h_l7
    replace h_p7 := s_q3 _ _ h_p7
    replace h_l8 := s_q3 _ _ h_l8
    replace h_p8 := s_q3 _ _ h_p8
    replace h_l9 := s_q3 _ _ h_l9
    replace h_p9 := s_q3 _ _ h_p9
    replace h_l10 := s_q3 _ _ h_l10
    replace h_p10 := s_q3 _ _ h_p10
    replace SC := SC.trans s_q3
    clear s_q3 h_q1 h_q2
    refine ⟨_, rfl, _, rfl, (by show 4 ≤ sizeLine; decide), fun e11 ne11 => ?_⟩
    skip
    have s_e11 := same_upd (o := HO.lst [.int 0, .int 1, .int 0, .int 0]) ne11
    have h_e11 := (upd_same : (L2.upd C_q3 e11 (.lst [.int 0, .int 1, .int 0, .int 0])) e11 = _)
    generalize (L2.upd C_q3 e11 (.lst [.int 0, .int 1, .int 0, .int 0])) = C_e11 at s_e11 h_e11
    replace h_hd := s_e11 _ _ h_hd
    replace h_l0 := s_e11 _ _ h_l0
    replace h_p0 := s_e11 _ _ h_p0
    replace h_l1 := s_e11 _ _ h_l1
    replace h_p1 := s_e11 _ _ h_p1
    replace h_l2 := s_e11 _ _ h_l2
    replace h_p2 := s_e11 _ _ h_p2
    replace h_l3 := s_e11 _ _ h_l3
    replace h_p3 := s_e11 _ _ h_p3
    replace h_l4 := s_e11 _ _ h_l4
    replace h_p4 := s_e11 _ _ h_p4
    replace h_l5 := s_e11 _ _ h_l5
    replace h_p5 := s_e11 _ _ h_p5
    replace h_l6 := s_e11 _ _ h_l6
    replace h_p6 := s_e11 _ _ h_p6
    replace h_l7 := s_e11 _ _ h_l7
    replace h_p7 := s_e11 _ _ h_p7
    replace h_l8 := s_e11 _ _ h_l8
    replace h_p8 := s_e11 _ _ h_p8
    replace h_l9 := s_e11 _ _ h_l9
    replace h_p9 := s_e11 _ _ h_p9
    replace h_l10 := s_e11 _ _ h_l10
    replace h_p10 := s_e11 _ _ h_p10
    replace h_q3 := s_e11 _ _ h_q3
    replace SC := SC.trans s_e11
    clear s_e11
    refine ⟨hd, e11, _, _, rfl, rfl, h_hd, h_e11, (by show 4 + 4 ≤ sizeLine; decide), fun l11 nl11 => ?_⟩
    have l11d : l11 ≠ d := (ne_of_none (SC _ _ hd5) nl11).symm
    have s_l11 := same_upd (o := HO.lst ([.int 78, .int 4, .int 3, .int 1] ++ [.int 0, .int 1, .int 0, .int 0])) nl11
    have h_l11 := (upd_same : (L2.upd C_e11 l11 (.lst ([.int 78, .int 4, .int 3, .int 1] ++ [.int 0, .int 1, .int 0, .int 0]))) l11 = _)
    generalize (L2.upd C_e11 l11 (.lst ([.int 78, .int 4, .int 3, .int 1] ++ [.int 0, .int 1, .int 0, .int 0]))) = C_l11 at s_l11 h_l11
    replace h_hd := s_l11 _ _ h_hd
    replace h_l0 := s_l11 _ _ h_l0
    replace h_p0 := s_l11 _ _ h_p0
    replace h_l1 := s_l11 _ _ h_l1
    replace h_p1 := s_l11 _ _ h_p1
    replace h_l2 := s_l11 _ _ h_l2
    replace h_p2 := s_l11 _ _ h_p2
    replace h_l3 := s_l11 _ _ h_l3
    replace h_p3 := s_l11 _ _ h_p3
    replace h_l4 := s_l11 _ _ h_l4
    replace h_p4 := s_l11 _ _ h_p4
    replace h_l5 := s_l11 _ _ h_l5
    replace h_p5 := s_l11 _ _ h_p5
    replace h_l6 := s_l11 _ _ h_l6
    replace h_p6 := s_l11 _ _ h_p6
    replace h_l7 := s_l11 _ _ h_l7
    replace h_p7 := s_l11 _ _ h_p7
    replace h_l8 := s_l11 _ _ h_l8
    replace h_p8 := s_l11 _ _ h_p8
    replace h_l9 := s_l11 _ _ h_l9
    replace h_p9 := s_l11 _ _ h_p9
    replace h_l10 := s_l11 _ _ h_l10
    replace h_p10 := s_l11 _ _ h_p10
    replace h_q3 := s_l11 _ _ h_q3
    replace SC := SC.trans s_l11
    clear s_l11 h_e11
    refine ⟨(by show 2 ≤ sizeLine; decide), fun p11 np11 => ?_⟩
    skip
    have s_p11 := same_upd (o := HO.tup [.ref l11, .int 7]) np11
    have h_p11 := (upd_same : (L2.upd C_l11 p11 (.tup [.ref l11, .int 7])) p11 = _)
    generalize (L2.upd C_l11 p11 (.tup [.ref l11, .int 7])) = C_p11 at s_p11 h_p11
    replace h_hd := s_p11 _ _ h_hd
    replace h_l0 := s_p11 _ _ h_l0
    replace h_p0 := s_p11 _ _ h_p0
    replace h_l1 := s_p11 _ _ h_l1
    replace h_p1 := s_p11 _ _ h_p1
    replace h_l2 := s_p11 _ _ h_l2
    replace h_p2 := s_p11 _ _ h_p2
    replace h_l3 := s_p11 _ _ h_l3
    replace h_p3 := s_p11 _ _ h_p3
    replace h_l4 := s_p11 _ _ h_l4
    replace h_p4 := s_p11 _ _ h_p4
    replace h_l5 := s_p11 _ _ h_l5
    replace h_p5 := s_p11 _ _ h_p5
    replace h_l6 := s_p11 _ _ h_l6
    replace h_p6 := s_p11 _ _ h_p6
    replace h_l7 := s_p11 _ _ h_l7
    replace h_p7 := s_p11 _ _ h_p7
    replace h_l8 := s_p11 _ _ h_l8
    replace h_p8 := s_p11 _ _ h_p8
    replace h_l9 := s_p11 _ _ h_l9
    replace h_p9 := s_p11 _ _ h_p9
    replace h_l10 := s_p11 _ _ h_l10
    replace h_p10 := s_p11 _ _ h_p10
    replace h_q3 := s_p11 _ _ h_q3
    replace h_l11 := s_p11 _ _ h_l11
    replace SC := SC.trans s_p11
    clear s_p11
    refine ⟨_, rfl, (by show 4 ≤ sizeLine; decide), fun e12 ne12 => ?_⟩
    skip
    have s_e12 := same_upd (o := HO.lst [.int 0, .int 1, .int 0, .int 5]) ne12
    have h_e12 := (upd_same : (L2.upd C_p11 e12 (.lst [.int 0, .int 1, .int 0, .int 5])) e12 = _)
    generalize (L2.upd C_p11 e12 (.lst [.int 0, .int 1, .int 0, .int 5])) = C_e12 at s_e12 h_e12
    replace h_hd := s_e12 _ _ h_hd
    replace h_l0 := s_e12 _ _ h_l0
    replace h_p0 := s_e12 _ _ h_p0
    replace h_l1 := s_e12 _ _ h_l1
    replace h_p1 := s_e12 _ _ h_p1
    replace h_l2 := s_e12 _ _ h_l2
    replace h_p2 := s_e12 _ _ h_p2
    replace h_l3 := s_e12 _ _ h_l3
    replace h_p3 := s_e12 _ _ h_p3
    replace h_l4 := s_e12 _ _ h_l4
    replace h_p4 := s_e12 _ _ h_p4
    replace h_l5 := s_e12 _ _ h_l5
    replace h_p5 := s_e12 _ _ h_p5
    replace h_l6 := s_e12 _ _ h_l6
    replace h_p6 := s_e12 _ _ h_p6
    replace h_l7 := s_e12 _ _ h_l7
    replace h_p7 := s_e12 _ _ h_p7
    replace h_l8 := s_e12 _ _ h_l8
    replace h_p8 := s_e12 _ _ h_p8
    replace h_l9 := s_e12 _ _ h_l9
    replace h_p9 := s_e12 _ _ h_p9
    replace h_l10 := s_e12 _ _ h_l10
    replace h_p10 := s_e12 _ _ h_p10
    replace h_q3 := s_e12 _ _ h_q3
    replace h_l11 := s_e12 _ _ h_l11
    replace h_p11 := s_e12 _ _ h_p11
    replace SC := SC.trans s_e12
    clear s_e12
    refine ⟨hd, e12, _, _, rfl, rfl, h_hd, h_e12, (by show 4 + 4 ≤ sizeLine; decide), fun l12 nl12 => ?_⟩
    have l12d : l12 ≠ d := (ne_of_none (SC _ _ hd5) nl12).symm
    have s_l12 := same_upd (o := HO.lst ([.int 78, .int 4, .int 3, .int 1] ++ [.int 0, .int 1, .int 0, .int 5])) nl12
    have h_l12 := (upd_same : (L2.upd C_e12 l12 (.lst ([.int 78, .int 4, .int 3, .int 1] ++ [.int 0, .int 1, .int 0, .int 5]))) l12 = _)
    generalize (L2.upd C_e12 l12 (.lst ([.int 78, .int 4, .int 3, .int 1] ++ [.int 0, .int 1, .int 0, .int 5]))) = C_l12 at s_l12 h_l12
    replace h_hd := s_l12 _ _ h_hd
    replace h_l0 := s_l12 _ _ h_l0
    replace h_p0 := s_l12 _ _ h_p0
    replace h_l1 := s_l12 _ _ h_l1
    replace h_p1 := s_l12 _ _ h_p1
    replace h_l2 := s_l12 _ _ h_l2
    replace h_p2 := s_l12 _ _ h_p2
    replace h_l3 := s_l12 _ _ h_l3
    replace h_p3 := s_l12 _ _ h_p3
    replace h_l4 := s_l12 _ _ h_l4
    replace h_p4 := s_l12 _ _ h_p4
    replace h_l5 := s_l12 _ _ h_l5
    replace h_p5 := s_l12 _ _ h_p5
    replace h_l6 := s_l12 _ _ h_l6
    replace h_p6 := s_l12 _ _ h_p6
    replace h_l7 := s_l12 _ _ h_l7
    replace h_p7 := s_l12 _ _ h_p7
    replace h_l8 := s_l12 _ _ h_l8
    replace h_p8 := s_l12 _ _ h_p8
    replace h_l9 := s_l12 _ _ h_l9
    replace h_p9 := s_l12 _ _ h_p9
    replace h_l10 := s_l12 _ _ h_l10
    replace h_p10 := s_l12 _ _ h_p10
    replace h_q3 := s_l12 _ _ h_q3
    replace h_l11 := s_l12 _ _ h_l11
    replace h_p11 := s_l12 _ _ h_p11
    replace SC := SC.trans s_l12
    clear s_l12 h_e12
    refine ⟨(by show 2 ≤ sizeLine; decide), fun p12 np12 => ?_⟩
    skip
    have s_p12 := same_upd (o := HO.tup [.ref l12, .int 7]) np12
    have h_p12 := (upd_same : (L2.upd C_l12 p12 (.tup [.ref l12, .int 7])) p12 = _)
    generalize (L2.upd C_l12 p12 (.tup [.ref l12, .int 7])) = C_p12 at s_p12 h_p12
    replace h_hd := s_p12 _ _ h_hd
    replace h_l0 := s_p12 _ _ h_l0
    replace h_p0 := s_p12 _ _ h_p0
    replace h_l1 := s_p12 _ _ h_l1
    replace h_p1 := s_p12 _ _ h_p1
    replace h_l2 := s_p12 _ _ h_l2
    replace h_p2 := s_p12 _ _ h_p2
    replace h_l3 := s_p12 _ _ h_l3
    replace h_p3 := s_p12 _ _ h_p3
    replace h_l4 := s_p12 _ _ h_l4
    replace h_p4 := s_p12 _ _ h_p4
    replace h_l5 := s_p12 _ _ h_l5
    replace h_p5 := s_p12 _ _ h_p5
    replace h_l6 := s_p12 _ _ h_l6
    replace h_p6 := s_p12 _ _ h_p6
    replace h_l7 := s_p12 _ _ h_l7
    replace h_p7 := s_p12 _ _ h_p7
    replace h_l8 := s_p12 _ _ h_l8
    replace h_p8 := s_p12 _ _ h_p8
    replace h_l9 := s_p12 _ _ h_l9
    replace h_p9 := s_p12 _ _ h_p9
    replace h_l10 := s_p12 _ _ h_l10
    replace h_p10 := s_p12 _ _ h_p10
    replace h_q3 := s_p12 _ _ h_q3
    replace h_l11 := s_p12 _ _ h_l11
    replace h_p11 := s_p12 _ _ h_p11
    replace h_l12 := s_p12 _ _ h_l12
    replace SC := SC.trans s_p12
    clear s_p12
    refine ⟨_, rfl, (by show 5 ≤ sizeLine; decide), fun e13 ne13 => ?_⟩
    skip
    have s_e13 := same_upd (o := HO.lst [.int 0, .int 1, .int 0, .int 4, .int 0]) ne13
    have h_e13 := (upd_same : (L2.upd C_p12 e13 (.lst [.int 0, .int 1, .int 0, .int 4, .int 0])) e13 = _)
    generalize (L2.upd C_p12 e13 (.lst [.int 0, .int 1, .int 0, .int 4, .int 0])) = C_e13 at s_e13 h_e13
    replace h_hd := s_e13 _ _ h_hd
    replace h_l0 := s_e13 _ _ h_l0
    replace h_p0 := s_e13 _ _ h_p0
    replace h_l1 := s_e13 _ _ h_l1
    replace h_p1 := s_e13 _ _ h_p1
    replace h_l2 := s_e13 _ _ h_l2
    replace h_p2 := s_e13 _ _ h_p2
    replace h_l3 := s_e13 _ _ h_l3
    replace h_p3 := s_e13 _ _ h_p3
    replace h_l4 := s_e13 _ _ h_l4
    replace h_p4 := s_e13 _ _ h_p4
    replace h_l5 := s_e13 _ _ h_l5
    replace h_p5 := s_e13 _ _ h_p5
    replace h_l6 := s_e13 _ _ h_l6
    replace h_p6 := s_e13 _ _ h_p6
    replace h_l7 := s_e13 _ _ h_l7
    replace h_p7 := s_e13 _ _ h_p7
    replace h_l8 := s_e13 _ _ h_l8
    replace h_p8 := s_e13 _ _ h_p8
    replace h_l9 := s_e13 _ _ h_l9
    replace h_p9 := s_e13 _ _ h_p9
    replace h_l10 := s_e13 _ _ h_l10
    replace h_p10 := s_e13 _ _ h_p10
    replace h_q3 := s_e13 _ _ h_q3
    replace h_l11 := s_e13 _ _ h_l11
    replace h_p11 := s_e13 _ _ h_p11
    replace h_l12 := s_e13 _ _ h_l12
    replace h_p12 := s_e13 _ _ h_p12
    replace SC := SC.trans s_e13
    clear s_e13
    refine ⟨hd, e13, _, _, rfl, rfl, h_hd, h_e13, (by show 4 + 5 ≤ sizeLine; decide), fun l13 nl13 => ?_⟩
    have l13d : l13 ≠ d := (ne_of_none (SC _ _ hd5) nl13).symm
    have s_l13 := same_upd (o := HO.lst ([.int 78, .int 4, .int 3, .int 1] ++ [.int 0, .int 1, .int 0, .int 4, .int 0])) nl13
    have h_l13 := (upd_same : (L2.upd C_e13 l13 (.lst ([.int 78, .int 4, .int 3, .int 1] ++ [.int 0, .int 1, .int 0, .int 4, .int 0]))) l13 = _)
    generalize (L2.upd C_e13 l13 (.lst ([.int 78, .int 4, .int 3, .int 1] ++ [.int 0, .int 1, .int 0, .int 4, .int 0]))) = C_l13 at s_l13 h_l13
    replace h_hd := s_l13 _ _ h_hd
    replace h_l0 := s_l13 _ _ h_l0
    replace h_p0 := s_l13 _ _ h_p0
    replace h_l1 := s_l13 _ _ h_l1
    replace h_p1 := s_l13 _ _ h_p1
    replace h_l2 := s_l13 _ _ h_l2
    replace h_p2 := s_l13 _ _ h_p2
    replace h_l3 := s_l13 _ _ h_l3
    replace h_p3 := s_l13 _ _ h_p3
    replace h_l4 := s_l13 _ _ h_l4
    replace h_p4 := s_l13 _ _ h_p4
    replace h_l5 := s_l13 _ _ h_l5
    replace h_p5 := s_l13 _ _ h_p5
    replace h_l6 := s_l13 _ _ h_l6
    replace h_p6 := s_l13 _ _ h_p6
    replace h_l7 := s_l13 _ _ h_l7
    replace h_p7 := s_l13 _ _ h_p7
    replace h_l8 := s_l13 _ _ h_l8
    replace h_p8 := s_l13 _ _ h_p8
    replace h_l9 := s_l13 _ _ h_l9
    replace h_p9 := s_l13 _ _ h_p9
    replace h_l10 := s_l13 _ _ h_l10
    replace h_p10 := s_l13 _ _ h_p10
    replace h_q3 := s_l13 _ _ h_q3
    replace h_l11 := s_l13 _ _ h_l11
    replace h_p11 := s_l13 _ _ h_p11
    replace h_l12 := s_l13 _ _ h_l12
    replace h_p12 := s_l13 _ _ h_p12
    replace SC := SC.trans s_l13
    clear s_l13 h_e13
    refine ⟨(by show 2 ≤ sizeLine; decide), fun p13 np13 => ?_⟩
    skip
    have s_p13 := same_upd (o := HO.tup [.ref l13, .int 8]) np13
    have h_p13 := (upd_same : (L2.upd C_l13 p13 (.tup [.ref l13, .int 8])) p13 = _)
    generalize (L2.upd C_l13 p13 (.tup [.ref l13, .int 8])) = C_p13 at s_p13 h_p13
    replace h_hd := s_p13 _ _ h_hd
    replace h_l0 := s_p13 _ _ h_l0
    replace h_p0 := s_p13 _ _ h_p0
    replace h_l1 := s_p13 _ _ h_l1
    replace h_p1 := s_p13 _ _ h_p1
    replace h_l2 := s_p13 _ _ h_l2
    replace h_p2 := s_p13 _ _ h_p2
    replace h_l3 := s_p13 _ _ h_l3
    replace h_p3 := s_p13 _ _ h_p3
    replace h_l4 := s_p13 _ _ h_l4
    replace h_p4 := s_p13 _ _ h_p4
    replace h_l5 := s_p13 _ _ h_l5
    replace h_p5 := s_p13 _ _ h_p5
    replace h_l6 := s_p13 _ _ h_l6
    replace h_p6 := s_p13 _ _ h_p6
    replace h_l7 := s_p13 _ _ h_l7
    replace h_p7 := s_p13 _ _ h_p7
    replace h_l8 := s_p13 _ _ h_l8
    replace h_p8 := s_p13 _ _ h_p8
    replace h_l9 := s_p13 _ _ h_l9
    replace h_p9 := s_p13 _ _ h_p9
    replace h_l10 := s_p13 _ _ h_l10
    replace h_p10 := s_p13 _ _ h_p10
    replace h_q3 := s_p13 _ _ h_q3
    replace h_l11 := s_p13 _ _ h_l11
    replace h_p11 := s_p13 _ _ h_p11
    replace h_l12 := s_p13 _ _ h_l12
    replace h_p12 := s_p13 _ _ h_p12
    replace h_l13 := s_p13 _ _ h_l13
    replace SC := SC.trans s_p13
    clear s_p13
    refine ⟨(by show 3 ≤ sizeLine; decide), fun q4 nq4 => ?_⟩
    skip
    have s_q4 := same_upd (o := HO.lst [.ref p11, .ref p12, .ref p13]) nq4
    have h_q4 := (upd_same : (L2.upd C_p13 q4 (.lst [.ref p11, .ref p12, .ref p13])) q4 = _)
    generalize (L2.upd C_p13 q4 (.lst [.ref p11, .ref p12, .ref p13])) = C_q4 at s_q4 h_q4
    replace h_hd := s_q4 _ _ h_hd
    replace h_l0 := s_q4 _ _ h_l0
    replace h_p0 := s_q4 _ _ h_p0
    replace h_l1 := s_q4 _ _ h_l1
    replace h_p1 := s_q4 _ _ h_p1
    replace h_l2 := s_q4 _ _ h_l2
    replace h_p2 := s_q4 _ _ h_p2
    replace h_l3 := s_q4 _ _ h_l3
    replace h_p3 := s_q4 _ _ h_p3
    replace h_l4 := s_q4 _ _ h_l4
    replace h_p4 := s_q4 _ _ h_p4
    replace h_l5 := s_q4 _ _ h_l5
    replace h_p5 := s_q4 _ _ h_p5
    replace h_l6 := s_q4 _ _ h_l6
    replace h_p6 := s_q4 _ _ h_p6
    replace h_l7 := s_q4 _ _ h_l7
    replace h_p7 := s_q4 _ _ h_p7
    replace h_l8 := s_q4 _ _ h_l8
    replace h_p8 := s_q4 _ _ h_p8
    replace h_l9 := s_q4 _ _ h_l9
    replace h_p9 := s_q4 _ _ h_p9
    replace h_l10 := s_q4 _ _ h_l10
    replace h_p10 := s_q4 _ _ h_p10
    replace h_q3 := s_q4 _ _ h_q3
    replace h_l11 := s_q4 _ _ h_l11
    replace h_p11 := s_q4 _ _ h_p11
    replace h_l12 := s_q4 _ _ h_l12
    replace h_p12 := s_q4 _ _ h_p12
    replace h_l13 := s_q4 _ _ h_l13
    replace h_p13 := s_q4 _ _ h_p13
    replace SC := SC.trans s_q4
    clear s_q4
    refine ⟨q3, q4, _, _, rfl, rfl, h_q3, h_q4, (by show 11 + 3 ≤ sizeLine; decide), fun q5 nq5 => ?_⟩
    have q5d : q5 ≠ d := (ne_of_none (SC _ _ hd5) nq5).symm
    have q5c : q5 ≠ co := (ne_of_none (SC _ _ J5.C) nq5).symm
    have l0q : l0 ≠ q5 := ne_of_none h_l0 nq5
    have l1q : l1 ≠ q5 := ne_of_none h_l1 nq5
    have l2q : l2 ≠ q5 := ne_of_none h_l2 nq5
    have l3q : l3 ≠ q5 := ne_of_none h_l3 nq5
    have l4q : l4 ≠ q5 := ne_of_none h_l4 nq5
    have l5q : l5 ≠ q5 := ne_of_none h_l5 nq5
    have l6q : l6 ≠ q5 := ne_of_none h_l6 nq5
    have l7q : l7 ≠ q5 := ne_of_none h_l7 nq5
    have l8q : l8 ≠ q5 := ne_of_none h_l8 nq5
    have l9q : l9 ≠ q5 := ne_of_none h_l9 nq5
    have l10q : l10 ≠ q5 := ne_of_none h_l10 nq5
    have l11q : l11 ≠ q5 := ne_of_none h_l11 nq5
    have l12q : l12 ≠ q5 := ne_of_none h_l12 nq5
    have l13q : l13 ≠ q5 := ne_of_none h_l13 nq5
    have s_q5 := same_upd (o := HO.lst (([.ref p0, .ref p1, .ref p2, .ref p3, .ref p4, .ref p5] ++ [.ref p6, .ref p7, .ref p8, .ref p9, .ref p10]) ++ [.ref p11, .ref p12, .ref p13])) nq5
    have h_q5 := (upd_same : (L2.upd C_q4 q5 (.lst (([.ref p0, .ref p1, .ref p2, .ref p3, .ref p4, .ref p5] ++ [.ref p6, .ref p7, .ref p8, .ref p9, .ref p10]) ++ [.ref p11, .ref p12, .ref p13]))) q5 = _)
    generalize (L2.upd C_q4 q5 (.lst (([.ref p0, .ref p1, .ref p2, .ref p3, .ref p4, .ref p5] ++ [.ref p6, .ref p7, .ref p8, .ref p9, .ref p10]) ++ [.ref p11, .ref p12, .ref p13]))) = C_q5 at s_q5 h_q5
    replace h_hd := s_q5 _ _ h_hd
    replace h_l0 := s_q5 _ _ h_l0
    replace h_p0 := s_q5 _ _ h_p0
    replace h_l1 := s_q5 _ _ h_l1
    replace h_p1 := s_q5 _ _ h_p1
    replace h_l2 := s_q5 _ _ h_l2
    replace h_p2 := s_q5 _ _ h_p2
    replace h_l3 := s_q5 _ _ h_l3
    replace h_p3 := s_q5 _ _ h_p3
    replace h_l4 := s_q5 _ _ h_l4
    replace h_p4 := s_q5 _ _ h_p4
    replace h_l5 := s_q5 _ _ h_l5
    replace h_p5 := s_q5 _ _ h_p5
    replace h_l6 := s_q5 _ _ h_l6
    replace h_p6 := s_q5 _ _ h_p6
    replace h_l7 := s_q5 _ _ h_l7
    replace h_p7 := s_q5 _ _ h_p7
    replace h_l8 := s_q5 _ _ h_l8
    replace h_p8 := s_q5 _ _ h_p8
    replace h_l9 := s_q5 _ _ h_l9
    replace h_p9 := s_q5 _ _ h_p9
    replace h_l10 := s_q5 _ _ h_l10
    replace h_p10 := s_q5 _ _ h_p10
    replace h_l11 := s_q5 _ _ h_l11
    replace h_p11 := s_q5 _ _ h_p11
    replace h_l12 := s_q5 _ _ h_l12
    replace h_p12 := s_q5 _ _ h_p12
    replace h_l13 := s_q5 _ _ h_l13
    replace h_p13 := s_q5 _ _ h_p13
    replace SC := SC.trans s_q5
    clear s_q5 h_q3 h_q4
    refine ⟨_, rfl, .inl ⟨rfl, _, SqL.of h_q5⟩, _, rfl, (by show 5 ≤ sizeLine; decide), fun e14 ne14 => ?_⟩
    skip
    have s_e14 := same_upd (o := HO.lst [.int 0, .int 1, .int 0, .int 4, .int 10]) ne14
    have h_e14 := (upd_same : (L2.upd C_q5 e14 (.lst [.int 0, .int 1, .int 0, .int 4, .int 10])) e14 = _)
    generalize (L2.upd C_q5 e14 (.lst [.int 0, .int 1, .int 0, .int 4, .int 10])) = C_e14 at s_e14 h_e14
    replace h_hd := s_e14 _ _ h_hd
    replace h_l0 := s_e14 _ _ h_l0
    replace h_p0 := s_e14 _ _ h_p0
    replace h_l1 := s_e14 _ _ h_l1
    replace h_p1 := s_e14 _ _ h_p1
    replace h_l2 := s_e14 _ _ h_l2
    replace h_p2 := s_e14 _ _ h_p2
    replace h_l3 := s_e14 _ _ h_l3
    replace h_p3 := s_e14 _ _ h_p3
    replace h_l4 := s_e14 _ _ h_l4
    replace h_p4 := s_e14 _ _ h_p4
    replace h_l5 := s_e14 _ _ h_l5
    replace h_p5 := s_e14 _ _ h_p5
    replace h_l6 := s_e14 _ _ h_l6
    replace h_p6 := s_e14 _ _ h_p6
    replace h_l7 := s_e14 _ _ h_l7
    replace h_p7 := s_e14 _ _ h_p7
    replace h_l8 := s_e14 _ _ h_l8
    replace h_p8 := s_e14 _ _ h_p8
    replace h_l9 := s_e14 _ _ h_l9
    replace h_p9 := s_e14 _ _ h_p9
    replace h_l10 := s_e14 _ _ h_l10
    replace h_p10 := s_e14 _ _ h_p10
    replace h_l11 := s_e14 _ _ h_l11
    replace h_p11 := s_e14 _ _ h_p11
    replace h_l12 := s_e14 _ _ h_l12
    replace h_p12 := s_e14 _ _ h_p12
    replace h_l13 := s_e14 _ _ h_l13
    replace h_p13 := s_e14 _ _ h_p13
    replace h_q5 := s_e14 _ _ h_q5
    replace SC := SC.trans s_e14
    clear s_e14
    refine ⟨hd, e14, _, _, rfl, rfl, h_hd, h_e14, (by show 4 + 5 ≤ sizeLine; decide), fun l14 nl14 => ?_⟩
    have l14d : l14 ≠ d := (ne_of_none (SC _ _ hd5) nl14).symm
    have l14q : l14 ≠ q5 := (ne_of_none h_q5 nl14).symm
    have s_l14 := same_upd (o := HO.lst ([.int 78, .int 4, .int 3, .int 1] ++ [.int 0, .int 1, .int 0, .int 4, .int 10])) nl14
    have h_l14 := (upd_same : (L2.upd C_e14 l14 (.lst ([.int 78, .int 4, .int 3, .int 1] ++ [.int 0, .int 1, .int 0, .int 4, .int 10]))) l14 = _)
    generalize (L2.upd C_e14 l14 (.lst ([.int 78, .int 4, .int 3, .int 1] ++ [.int 0, .int 1, .int 0, .int 4, .int 10]))) = C_l14 at s_l14 h_l14
    replace h_hd := s_l14 _ _ h_hd
    replace h_l0 := s_l14 _ _ h_l0
    replace h_p0 := s_l14 _ _ h_p0
    replace h_l1 := s_l14 _ _ h_l1
    replace h_p1 := s_l14 _ _ h_p1
    replace h_l2 := s_l14 _ _ h_l2
    replace h_p2 := s_l14 _ _ h_p2
    replace h_l3 := s_l14 _ _ h_l3
    replace h_p3 := s_l14 _ _ h_p3
    replace h_l4 := s_l14 _ _ h_l4
    replace h_p4 := s_l14 _ _ h_p4
    replace h_l5 := s_l14 _ _ h_l5
    replace h_p5 := s_l14 _ _ h_p5
    replace h_l6 := s_l14 _ _ h_l6
    replace h_p6 := s_l14 _ _ h_p6
    replace h_l7 := s_l14 _ _ h_l7
    replace h_p7 := s_l14 _ _ h_p7
    replace h_l8 := s_l14 _ _ h_l8
    replace h_p8 := s_l14 _ _ h_p8
    replace h_l9 := s_l14 _ _ h_l9
    replace h_p9 := s_l14 _ _ h_p9
    replace h_l10 := s_l14 _ _ h_l10
    replace h_p10 := s_l14 _ _ h_p10
    replace h_l11 := s_l14 _ _ h_l11
    replace h_p11 := s_l14 _ _ h_p11
    replace h_l12 := s_l14 _ _ h_l12
    replace h_p12 := s_l14 _ _ h_p12
    replace h_l13 := s_l14 _ _ h_l13
    replace h_p13 := s_l14 _ _ h_p13
    replace h_q5 := s_l14 _ _ h_q5
    replace SC := SC.trans s_l14
    clear s_l14 h_e14
    refine ⟨(by show 2 ≤ sizeLine; decide), fun p14 np14 => ?_⟩
    skip
    have s_p14 := same_upd (o := HO.tup [.ref l14, .int 8]) np14
    have h_p14 := (upd_same : (L2.upd C_l14 p14 (.tup [.ref l14, .int 8])) p14 = _)
    generalize (L2.upd C_l14 p14 (.tup [.ref l14, .int 8])) = C_p14 at s_p14 h_p14
    replace h_hd := s_p14 _ _ h_hd
    replace h_l0 := s_p14 _ _ h_l0
    replace h_p0 := s_p14 _ _ h_p0
    replace h_l1 := s_p14 _ _ h_l1
    replace h_p1 := s_p14 _ _ h_p1
    replace h_l2 := s_p14 _ _ h_l2
    replace h_p2 := s_p14 _ _ h_p2
    replace h_l3 := s_p14 _ _ h_l3
    replace h_p3 := s_p14 _ _ h_p3
    replace h_l4 := s_p14 _ _ h_l4
    replace h_p4 := s_p14 _ _ h_p4
    replace h_l5 := s_p14 _ _ h_l5
    replace h_p5 := s_p14 _ _ h_p5
    replace h_l6 := s_p14 _ _ h_l6
    replace h_p6 := s_p14 _ _ h_p6
    replace h_l7 := s_p14 _ _ h_l7
    replace h_p7 := s_p14 _ _ h_p7
    replace h_l8 := s_p14 _ _ h_l8
    replace h_p8 := s_p14 _ _ h_p8
    replace h_l9 := s_p14 _ _ h_l9
    replace h_p9 := s_p14 _ _ h_p9
    replace h_l10 := s_p14 _ _ h_l10
    replace h_p10 := s_p14 _ _ h_p10
    replace h_l11 := s_p14 _ _ h_l11
    replace h_p11 := s_p14 _ _ h_p11
    replace h_l12 := s_p14 _ _ h_l12
    replace h_p12 := s_p14 _ _ h_p12
    replace h_l13 := s_p14 _ _ h_l13
    replace h_p13 := s_p14 _ _ h_p13
    replace h_q5 := s_p14 _ _ h_q5
    replace h_l14 := s_p14 _ _ h_l14
    replace SC := SC.trans s_p14
    clear s_p14
    refine ⟨q5, _, _, rfl, rfl, h_q5, (by show 14 < sizeLine; decide), ?_⟩
    have bq : But q5 C_p14 (L2.upd C_p14 q5 (.lst ((([.ref p0, .ref p1, .ref p2, .ref p3, .ref p4, .ref p5] ++ [.ref p6, .ref p7, .ref p8, .ref p9, .ref p10]) ++ [.ref p11, .ref p12, .ref p13]) ++ [.ref p14]))) := .upd
    have h_q := (upd_same : (L2.upd C_p14 q5 (.lst ((([.ref p0, .ref p1, .ref p2, .ref p3, .ref p4, .ref p5] ++ [.ref p6, .ref p7, .ref p8, .ref p9, .ref p10]) ++ [.ref p11, .ref p12, .ref p13]) ++ [.ref p14]))) q5 = _)
    have tq : TupKeep C_p14 (L2.upd C_p14 q5 (.lst ((([.ref p0, .ref p1, .ref p2, .ref p3, .ref p4, .ref p5] ++ [.ref p6, .ref p7, .ref p8, .ref p9, .ref p10]) ++ [.ref p11, .ref p12, .ref p13]) ++ [.ref p14]))) := TupKeep.lst h_q5
    have J6 := (J5.same SC).butL bq h_q5 q5d q5c
    generalize (L2.upd C_p14 q5 (.lst ((([.ref p0, .ref p1, .ref p2, .ref p3, .ref p4, .ref p5] ++ [.ref p6, .ref p7, .ref p8, .ref p9, .ref p10]) ++ [.ref p11, .ref p12, .ref p13]) ++ [.ref p14]))) = HQ at bq h_q tq J6
    replace h_l0 := bq _ _ l0q h_l0
    replace h_p0 := tq _ _ h_p0
    replace h_l1 := bq _ _ l1q h_l1
    replace h_p1 := tq _ _ h_p1
    replace h_l2 := bq _ _ l2q h_l2
    replace h_p2 := tq _ _ h_p2
    replace h_l3 := bq _ _ l3q h_l3
    replace h_p3 := tq _ _ h_p3
    replace h_l4 := bq _ _ l4q h_l4
    replace h_p4 := tq _ _ h_p4
    replace h_l5 := bq _ _ l5q h_l5
    replace h_p5 := tq _ _ h_p5
    replace h_l6 := bq _ _ l6q h_l6
    replace h_p6 := tq _ _ h_p6
    replace h_l7 := bq _ _ l7q h_l7
    replace h_p7 := tq _ _ h_p7
    replace h_l8 := bq _ _ l8q h_l8
    replace h_p8 := tq _ _ h_p8
    replace h_l9 := bq _ _ l9q h_l9
    replace h_p9 := tq _ _ h_p9
    replace h_l10 := bq _ _ l10q h_l10
    replace h_p10 := tq _ _ h_p10
    replace h_l11 := bq _ _ l11q h_l11
    replace h_p11 := tq _ _ h_p11
    replace h_l12 := bq _ _ l12q h_l12
    replace h_p12 := tq _ _ h_p12
    replace h_l13 := bq _ _ l13q h_l13
    replace h_p13 := tq _ _ h_p13
    replace h_l14 := bq _ _ l14q h_l14
    replace h_p14 := tq _ _ h_p14
    clear SC h_q5 J5 hd5
    refine ⟨fun σ' H' => ∃ (lb : Addr) (bs : List Int) (pl : Nat), σ' = [some (.ref a), some (.ref hd), some (.ref q5), some (.int pl), none, some (.int at_), some (.ref lb), some (.ref co), some (.ref d), some (.ref ex), some nv, some v, some (.ref wr), none] ∧ H' lb = some (.lst (bs.map V.int)) ∧ lb ≠ d ∧ bs.length ≤ 9 ∧ (∀ t : List V, decF (bs.map V.int ++ t) = some pl) ∧ J20 d co (codeOf p h os) Pt qL H', ?_, ?_⟩
    · refine ⟨_, rfl, _, rfl, d, 15, rfl, J6.D, by decide, by decide, fun H8 r hr8 b8 D8 => ?_⟩
      have J8 := J6.butD b8 D8 cod
      have k8 := b8.tk J6.D
      have h_q := b8 _ _ q5d h_q
      match r, hr8 with
      | 0, _ => exact ⟨q5, _, 0, _, rfl, rfl, SqL.of h_q, atI_nat (j := 0) rfl, p0, _, rfl, SqT.of (k8 _ _ h_p0), rfl, _, _, rfl, _, _, rfl, rfl, l0, [77], 0, rfl, b8 _ _ l0d h_l0, l0d, by decide, fun t => rfl, J8⟩
      | 1, _ => exact ⟨q5, _, 1, _, rfl, rfl, SqL.of h_q, atI_nat (j := 1) rfl, p1, _, rfl, SqT.of (k8 _ _ h_p1), rfl, _, _, rfl, _, _, rfl, rfl, l1, [78, 0], 1, rfl, b8 _ _ l1d h_l1, l1d, by decide, fun t => rfl, J8⟩
      | 2, _ => exact ⟨q5, _, 2, _, rfl, rfl, SqL.of h_q, atI_nat (j := 2) rfl, p2, _, rfl, SqT.of (k8 _ _ h_p2), rfl, _, _, rfl, _, _, rfl, rfl, l2, [78, 31], 1, rfl, b8 _ _ l2d h_l2, l2d, by decide, fun t => rfl, J8⟩
      | 3, _ => exact ⟨q5, _, 3, _, rfl, rfl, SqL.of h_q, atI_nat (j := 3) rfl, p3, _, rfl, SqT.of (k8 _ _ h_p3), rfl, _, _, rfl, _, _, rfl, rfl, l3, [78, 4, 0], 2, rfl, b8 _ _ l3d h_l3, l3d, by decide, fun t => rfl, J8⟩
      | 4, _ => exact ⟨q5, _, 4, _, rfl, rfl, SqL.of h_q, atI_nat (j := 4) rfl, p4, _, rfl, SqT.of (k8 _ _ h_p4), rfl, _, _, rfl, _, _, rfl, rfl, l4, [78, 4, 11], 2, rfl, b8 _ _ l4d h_l4, l4d, by decide, fun t => rfl, J8⟩
      | 5, _ => exact ⟨q5, _, 5, _, rfl, rfl, SqL.of h_q, atI_nat (j := 5) rfl, p5, _, rfl, SqT.of (k8 _ _ h_p5), rfl, _, _, rfl, _, _, rfl, rfl, l5, [78, 4, 3, 21], 3, rfl, b8 _ _ l5d h_l5, l5d, by decide, fun t => rfl, J8⟩
      | 6, _ => exact ⟨q5, _, 6, _, rfl, rfl, SqL.of h_q, atI_nat (j := 6) rfl, p6, _, rfl, SqT.of (k8 _ _ h_p6), rfl, _, _, rfl, _, _, rfl, rfl, l6, [78, 4, 1, 1], 3, rfl, b8 _ _ l6d h_l6, l6d, by decide, fun t => rfl, J8⟩
      | 7, _ => exact ⟨q5, _, 7, _, rfl, rfl, SqL.of h_q, atI_nat (j := 7) rfl, p7, _, rfl, SqT.of (k8 _ _ h_p7), rfl, _, _, rfl, _, _, rfl, rfl, l7, [78, 4, 3, 1, 3], 4, rfl, b8 _ _ l7d h_l7, l7d, by decide, fun t => rfl, J8⟩
      | 8, _ => exact ⟨q5, _, 8, _, rfl, rfl, SqL.of h_q, atI_nat (j := 8) rfl, p8, _, rfl, SqT.of (k8 _ _ h_p8), rfl, _, _, rfl, _, _, rfl, rfl, l8, [78, 4, 3, 1, 0, 3], 5, rfl, b8 _ _ l8d h_l8, l8d, by decide, fun t => rfl, J8⟩
      | 9, _ => exact ⟨q5, _, 9, _, rfl, rfl, SqL.of h_q, atI_nat (j := 9) rfl, p9, _, rfl, SqT.of (k8 _ _ h_p9), rfl, _, _, rfl, _, _, rfl, rfl, l9, [78, 4, 3, 1, 2, 2], 5, rfl, b8 _ _ l9d h_l9, l9d, by decide, fun t => rfl, J8⟩
      | 10, _ => exact ⟨q5, _, 10, _, rfl, rfl, SqL.of h_q, atI_nat (j := 10) rfl, p10, _, rfl, SqT.of (k8 _ _ h_p10), rfl, _, _, rfl, _, _, rfl, rfl, l10, [78, 4, 3, 1, 0, 1, 4], 6, rfl, b8 _ _ l10d h_l10, l10d, by decide, fun t => rfl, J8⟩
      | 11, _ => exact ⟨q5, _, 11, _, rfl, rfl, SqL.of h_q, atI_nat (j := 11) rfl, p11, _, rfl, SqT.of (k8 _ _ h_p11), rfl, _, _, rfl, _, _, rfl, rfl, l11, [78, 4, 3, 1, 0, 1, 0, 0], 7, rfl, b8 _ _ l11d h_l11, l11d, by decide, fun t => rfl, J8⟩
      | 12, _ => exact ⟨q5, _, 12, _, rfl, rfl, SqL.of h_q, atI_nat (j := 12) rfl, p12, _, rfl, SqT.of (k8 _ _ h_p12), rfl, _, _, rfl, _, _, rfl, rfl, l12, [78, 4, 3, 1, 0, 1, 0, 5], 7, rfl, b8 _ _ l12d h_l12, l12d, by decide, fun t => rfl, J8⟩
      | 13, _ => exact ⟨q5, _, 13, _, rfl, rfl, SqL.of h_q, atI_nat (j := 13) rfl, p13, _, rfl, SqT.of (k8 _ _ h_p13), rfl, _, _, rfl, _, _, rfl, rfl, l13, [78, 4, 3, 1, 0, 1, 0, 4, 0], 8, rfl, b8 _ _ l13d h_l13, l13d, by decide, fun t => rfl, J8⟩
      | 14, _ => exact ⟨q5, _, 14, _, rfl, rfl, SqL.of h_q, atI_nat (j := 14) rfl, p14, _, rfl, SqT.of (k8 _ _ h_p14), rfl, _, _, rfl, _, _, rfl, rfl, l14, [78, 4, 3, 1, 0, 1, 0, 4, 10], 8, rfl, b8 _ _ l14d h_l14, l14d, by decide, fun t => rfl, J8⟩
      | r + 15, hz => exact absurd hz (by omega)
    clear h_l0 h_p0 l0d l0q h_l1 h_p1 l1d l1q h_l2 h_p2 l2d l2q h_l3 h_p3 l3d l3q h_l4 h_p4 l4d l4q h_l5 h_p5 l5d l5q h_l6 h_p6 l6d l6q h_l7 h_p7 l7d l7q h_l8 h_p8 l8d l8q h_l9 h_p9 l9d l9q h_l10 h_p10 l10d l10q h_l11 h_p11 l11d l11q h_l12 h_p12 l12d l12q h_l13 h_p13 l13d l13q h_l14 h_p14 l14d l14q J6 bq tq h_q
    rintro σ H1 ⟨lb, bs, pl, rfl, hlb, lbd, bl9, hdec, J1⟩
    refine ⟨J1.T, fun H2 e2 T2 => ?_⟩
    have J2 := J1.extN e2 T2
    have hlb2 := ExtN.lst e2 hlb
    refine ⟨_, rfl, 9, rfl, by decide, by decide, fun L nL => ?_⟩
    have Ld : L ≠ d := (ne_of_none J2.D.som.choose_spec nL).symm
    refine lc_range (lo := 0) (n := (9 : Int).toNat) (fun i H' => But d H2 H' ∧ DAt H' d ∧ ∃ rs : List Nat, H' L = some (.lst (nints rs)) ∧ rs.length = i) ⟨.new nL, J2.D.but (same_upd nL), [], upd_same, rfl⟩ ?_ ?_
    · rintro i H' hi ⟨bb, DD, rs, hL, hlen2⟩
      refine ⟨rfl, ?_⟩
      refine ⟨_, rfl, d, 256, rfl, DD, by decide, by decide, fun H8 r hr8 b8 D8 => ⟨_, b8 _ _ Ld hL, small1000 (by rw [nints_len']; have : i < 9 := hi; omega), (bb.trans b8).updN nL, D8.updN Ld.symm, rs ++ [r], ?_, by rw [List.length_append, hlen2]; rfl⟩⟩
      rw [upd_same, nints_app]
      rfl
    rintro H' ⟨bb, DD, rs, hL, hlen2⟩
    have J3 := J2.butD bb DD cod
    have hlb3 := bb _ _ lbd hlb2
    have hlen2 : rs.length = 9 := hlen2
    have bl : (bs.map V.int).length ≤ 9 := by rw [List.length_map]; exact bl9
    refine ⟨lb, L, _, _, rfl, rfl, hlb3, hL, Nat.le_of_lt (small1000 (by rw [nints_len']; omega)), fun m nm => ?_⟩
    have s4 := same_upd (o := HO.lst (bs.map V.int ++ nints rs)) nm
    have hm := (upd_same : (L2.upd H' m (.lst (bs.map V.int ++ nints rs))) m = _)
    generalize (L2.upd H' m (.lst (bs.map V.int ++ nints rs))) = H6 at s4 hm
    have J6 := J3.same s4
    clear J1 J2 J3 e2 T2 hlb hlb2 hlb3 bb DD hL nL s4 nm
    refine ⟨_, pl, rfl, .inr ⟨m, _, rfl, hm, fun z hz => (List.mem_append.mp hz).elim (fun y => by obtain ⟨i, _, rfl⟩ := List.mem_map.mp y; exact .int) (knT_nints z), by rw [List.length_append, nints_len']; omega, hdec _⟩, fun d2 H3 s3 hx => ⟨cE 13, 13, rfl, e15, .inr (.inr (.inr ⟨.inl rfl, xc, xf1, d2, pl, rfl, hx, fun u H4 s4 hu => one_lit (nm := "code") (n := pl) okc hu (fun k z => ⟨_, rfl, z⟩) fun H5 s5 => iteF ?_⟩))⟩⟩
    have J5 := J6.same (s3.trans (s4.trans s5))
    clear J6 s3 s4 s5 hx hu hm hdec J5
    refine ⟨(by show 9 ≤ sizeLine; decide), fun g ng => ?_⟩
    have h1 := (upd_same : (L2.upd H5 g (.lst [.int 78, .int 30, .int 10, .int 1, .int 9, .int 8, .int 29, .int 30, .int 9])) g = _)
    generalize (L2.upd H5 g (.lst [.int 78, .int 30, .int 10, .int 1, .int 9, .int 8, .int 29, .int 30, .int 9])) = H6 at h1
    have ev : V.int (Int.fmod ([78, 30, 10, 1, 9, 8, 29, 30, 9] : List Int).sum 256) = V.int ((204 : Nat) : Int) := congrArg V.int (by decide +kernel)
    refine ⟨_, rfl, _, rfl, g, [78, 30, 10, 1, 9, 8, 29, 30, 9], rfl, SqL.of h1, _, _, rfl, rfl, (by show (256 : Int) ≠ 0; decide), ?_⟩
    dsimp only
    rw [ev]
    refine ⟨(by show 1 ≤ sizeLine; decide), fun g2 n2 => ?_⟩
    have s2 := same_upd (o := HO.lst [V.int ((204 : Nat) : Int)]) n2
    have h2 := (upd_same : (L2.upd H6 g2 (.lst [V.int ((204 : Nat) : Int)])) g2 = _)
    refine ⟨g, g2, _, _, rfl, rfl, s2 _ _ h1, h2, (by show 9 + 1 ≤ sizeLine; decide), fun g3 n3 => ?_⟩
    have h3 := (upd_same : (L2.upd (L2.upd H6 g2 (.lst [V.int ((204 : Nat) : Int)])) g3 (.lst ([.int 78, .int 30, .int 10, .int 1, .int 9, .int 8, .int 29, .int 30, .int 9] ++ [V.int ((204 : Nat) : Int)]))) g3 = _)
    generalize (L2.upd (L2.upd H6 g2 (.lst [V.int ((204 : Nat) : Int)])) g3 (.lst ([.int 78, .int 30, .int 10, .int 1, .int 9, .int 8, .int 29, .int 30, .int 9] ++ [V.int ((204 : Nat) : Int)]))) = H7 at h3
    have okL : NetOk 30 10 [⟨9, 8, 29, 30, 9⟩] := ⟨by decide, by decide, by decide, by decide, by decide, fun o ho => by
      obtain rfl := List.mem_singleton.mp ho
      exact ⟨by decide, by decide, by decide, by decide, by decide, by decide, by decide, by decide⟩⟩
    rw [← code_lit] at h3
    refine ⟨g3, 30, 10, [⟨9, 8, 29, 30, 9⟩], rfl, h3, okL, fun H8 x2 t2 F2 s8 nF2 N2 => ?_⟩
    obtain ⟨dx2, fl2, as2, _, hx2, ⟨ts2, ht2, hP2⟩, _⟩ := id N2
    refine ⟨x2, C, dx2, _, _, rfl, hx2, TN.cl, TN.nO, nf_or, (by show 5 ≤ sizeLine; decide), fun u1 m1 => ⟨(by show 1 ≤ sizeLine; decide), fun u2 m2 => ?_⟩⟩
    have t1 := same_upd (o := HO.tup [.int 9, .int 8, .int 29, .int 30, .int 9]) m1
    have k1 := (upd_same : (L2.upd H8 u1 (.tup [.int 9, .int 8, .int 29, .int 30, .int 9])) u1 = _)
    generalize (L2.upd H8 u1 (.tup [.int 9, .int 8, .int 29, .int 30, .int 9])) = H9 at t1 k1 m2
    have t2' := same_upd (o := HO.tup [.ref u1]) m2
    have tA := t1.trans t2'
    have hP9 : Paired (OrdAt (L2.upd H9 u2 (.tup [.ref u1]))) [.ref u1] [(⟨9, 8, 29, 30, 9⟩ : Od)] := .cons ⟨u1, rfl, t2' _ _ k1⟩ .nil
    refine ⟨.tuple ([(⟨9, 8, 29, 30, 9⟩ : Od)].map odD), .tuple ([(⟨9, 8, 29, 30, 9⟩ : Od)].map odD), .tup (SqT.of (tA _ _ ht2)) (ods_dp (OrdsAt.keep (tk_of tA) hP2)), .tup (SqT.of upd_same) (ods_dp hP9), ods_shaped [(⟨9, 8, 29, 30, 9⟩ : Od)], ods_shaped [(⟨9, 8, 29, 30, 9⟩ : Od)], ?_⟩
    rw [PySem.SeqAt.eqv_refl (.tuple ([(⟨9, 8, 29, 30, 9⟩ : Od)].map odD)) (PySem.SeqAt.canLay_of_shaped (ods_shaped [(⟨9, 8, 29, 30, 9⟩ : Od)]))]
    exact qz _
end
set_option maxHeartbeats 0 in
theorem all_mk {l : PySem.W.OpenLaw} {w : World} {K : PySem.W.Frag} {h : Heap} {mg : Str → Option Value} {fa : Addr} (X : K.In h) (G : h.Ns mainGlobals mg) (hfa : mg "law" = some (.ref fa)) (own : LamX.OwnTab K fa h)
    {C_Net : Addr}
    {cL PL : Addr} {ecL : Value} {dcL : Option Addr} {vsL : Array Value} {slcL : Array (Option Value)}
    {f1 : Addr} {od1 an1 : Option Addr} {sl1 : Array (Option Value)} {oc1 kV1 dc1 pm1 cd1 ct1 : Value}
    {f2 : Addr} {od2 an2 : Option Addr} {sl2 : Array (Option Value)} {oc2 kV2 dc2 pm2 cd2 ct2 : Value}
    {f3 : Addr} {od3 an3 : Option Addr} {sl3 : Array (Option Value)} {oc3 kV3 dc3 pm3 cd3 ct3 : Value}
    {f4 : Addr} {od4 an4 : Option Addr} {sl4 : Array (Option Value)} {oc4 kV4 dc4 pm4 cd4 ct4 : Value}
    {f5 : Addr} {od5 an5 : Option Addr} {sl5 : Array (Option Value)} {oc5 kV5 dc5 pm5 cd5 ct5 : Value}
    {f6 : Addr} {od6 an6 : Option Addr} {sl6 : Array (Option Value)} {oc6 kV6 dc6 pm6 cd6 ct6 : Value}
    {f7 : Addr} {od7 an7 : Option Addr} {sl7 : Array (Option Value)} {oc7 kV7 dc7 pm7 cd7 ct7 : Value}
    {f8 : Addr} {od8 an8 : Option Addr} {sl8 : Array (Option Value)} {oc8 kV8 dc8 pm8 cd8 ct8 : Value}
    {f9 : Addr} {od9 an9 : Option Addr} {sl9 : Array (Option Value)} {oc9 kV9 dc9 pm9 cd9 ct9 : Value}
    {f10 : Addr} {od10 an10 : Option Addr} {sl10 : Array (Option Value)} {oc10 kV10 dc10 pm10 cd10 ct10 : Value}
    {f11 : Addr} {od11 an11 : Option Addr} {sl11 : Array (Option Value)} {oc11 kV11 dc11 pm11 cd11 ct11 : Value}
    {f12 : Addr} {od12 an12 : Option Addr} {sl12 : Array (Option Value)} {oc12 kV12 dc12 pm12 cd12 ct12 : Value}
    {f13 : Addr} {od13 an13 : Option Addr} {sl13 : Array (Option Value)} {oc13 kV13 dc13 pm13 cd13 ct13 : Value}
    {f14 : Addr} {od14 an14 : Option Addr} {sl14 : Array (Option Value)} {oc14 kV14 dc14 pm14 cd14 ct14 : Value}
    {f15 : Addr} {od15 an15 : Option Addr} {sl15 : Array (Option Value)} {oc15 kV15 dc15 pm15 cd15 ct15 : Value}
    {f16 : Addr} {od16 an16 : Option Addr} {sl16 : Array (Option Value)} {oc16 kV16 dc16 pm16 cd16 ct16 : Value}
    {f17 : Addr} {od17 an17 : Option Addr} {sl17 : Array (Option Value)} {oc17 kV17 dc17 pm17 ct17 : Value}
    {f18 : Addr} {od18 an18 : Option Addr} {sl18 : Array (Option Value)} {oc18 kV18 dc18 pm18 cd18 ct18 : Value}
    {tkLONGEST_PERIOD : Tok}
    {tkMOST_HOUSES : Tok}
    {tkMOST_ORDERS : Tok}
    {tkLONGEST_DELAY : Tok}
    {tkFIRST_BYTE : Tok}
    {tkHEAD_LENGTH : Tok}
    {tkORDER_LENGTH : Tok}
    {CP E0 E1 E2 E3 E4 E5 E6 E7 E8 E9 E10 E11 E12 E13 E14 : Addr}
    {fS13 cdaS13 ccS13 : Addr} {odS13 anS13 cldS13 cddS13 : Option Addr} {slS13 cslS13 ccsS13 : Array (Option Value)} {vsS13 : Array Value} {ocS13 kVS13 dcS13 pmS13 ctS13 clS13 cclS13 : Value} {fileS13 : Str} {tfS13 : Tok}
    (aCNet : PySem.W.nsIn K mainGlobals "Net" = some (some (.ref C_Net)))
    (a1 : PySem.W.nsIn K mainGlobals "is_integer" = some (some (.ref f1)))
    (l1 : K.lookup f1 = some ⟨oc1, od1, .func (PySem.W.fnOf "is_integer" "is_integer" (defArgs s_is_integer) (defBody s_is_integer) (defScope s_is_integer) .none kV1 dc1 pm1 an1 cd1 ct1), sl1⟩)
    (c1 : PySem.W.codeIn K cd1 "is_integer" = true)
    (k1 : PySem.W.keepIn K (.ref f1) = true)
    (a2 : PySem.W.nsIn K mainGlobals "is_within" = some (some (.ref f2)))
    (l2 : K.lookup f2 = some ⟨oc2, od2, .func (PySem.W.fnOf "is_within" "is_within" (defArgs s_is_within) (defBody s_is_within) (defScope s_is_within) .none kV2 dc2 pm2 an2 cd2 ct2), sl2⟩)
    (c2 : PySem.W.codeIn K cd2 "is_within" = true)
    (k2 : PySem.W.keepIn K (.ref f2) = true)
    (a3 : PySem.W.nsIn K mainGlobals "is_order" = some (some (.ref f3)))
    (l3 : K.lookup f3 = some ⟨oc3, od3, .func (PySem.W.fnOf "is_order" "is_order" (defArgs s_is_order) (defBody s_is_order) (defScope s_is_order) .none kV3 dc3 pm3 an3 cd3 ct3), sl3⟩)
    (c3 : PySem.W.codeIn K cd3 "is_order" = true)
    (k3 : PySem.W.keepIn K (.ref f3) = true)
    (a4 : PySem.W.nsIn K mainGlobals "check_orders" = some (some (.ref f4)))
    (l4 : K.lookup f4 = some ⟨oc4, od4, .func (PySem.W.fnOf "check_orders" "check_orders" (defArgs s_check_orders) (defBody s_check_orders) (defScope s_check_orders) .none kV4 dc4 pm4 an4 cd4 ct4), sl4⟩)
    (c4 : PySem.W.codeIn K cd4 "check_orders" = true)
    (k4 : PySem.W.keepIn K (.ref f4) = true)
    (a5 : PySem.W.nsIn K mainGlobals "find_followed" = some (some (.ref f5)))
    (l5 : K.lookup f5 = some ⟨oc5, od5, .func (PySem.W.fnOf "find_followed" "find_followed" (defArgs s_find_followed) (defBody s_find_followed) (defScope s_find_followed) .none kV5 dc5 pm5 an5 cd5 ct5), sl5⟩)
    (c5 : PySem.W.codeIn K cd5 "find_followed" = true)
    (k5 : PySem.W.keepIn K (.ref f5) = true)
    (a6 : PySem.W.nsIn K mainGlobals "_law_random" = some (some (.ref f6)))
    (l6 : K.lookup f6 = some ⟨oc6, od6, .func (PySem.W.fnOf "_law_random" "_law_random" (defArgs s_l_random) (defBody s_l_random) (defScope s_l_random) .none kV6 dc6 pm6 an6 cd6 ct6), sl6⟩)
    (c6 : PySem.W.codeIn K cd6 "_law_random" = true)
    (k6 : PySem.W.keepIn K (.ref f6) = true)
    (a7 : PySem.W.nsIn K mainGlobals "_law_below" = some (some (.ref f7)))
    (l7 : K.lookup f7 = some ⟨oc7, od7, .func (PySem.W.fnOf "_law_below" "_law_below" (defArgs s_l_below) (defBody s_l_below) (defScope s_l_below) .none kV7 dc7 pm7 an7 cd7 ct7), sl7⟩)
    (c7 : PySem.W.codeIn K cd7 "_law_below" = true)
    (k7 : PySem.W.keepIn K (.ref f7) = true)
    (a8 : PySem.W.nsIn K mainGlobals "_law_order" = some (some (.ref f8)))
    (l8 : K.lookup f8 = some ⟨oc8, od8, .func (PySem.W.fnOf "_law_order" "_law_order" (defArgs s_l_order) (defBody s_l_order) (defScope s_l_order) .none kV8 dc8 pm8 an8 cd8 ct8), sl8⟩)
    (c8 : PySem.W.codeIn K cd8 "_law_order" = true)
    (k8 : PySem.W.keepIn K (.ref f8) = true)
    (a9 : PySem.W.nsIn K mainGlobals "_law_small" = some (some (.ref f9)))
    (l9 : K.lookup f9 = some ⟨oc9, od9, .func (PySem.W.fnOf "_law_small" "_law_small" (defArgs s_l_small) (defBody s_l_small) (defScope s_l_small) .none kV9 dc9 pm9 an9 cd9 ct9), sl9⟩)
    (c9 : PySem.W.codeIn K cd9 "_law_small" = true)
    (k9 : PySem.W.keepIn K (.ref f9) = true)
    (a10 : PySem.W.nsIn K mainGlobals "_law_net" = some (some (.ref f10)))
    (l10 : K.lookup f10 = some ⟨oc10, od10, .func (PySem.W.fnOf "_law_net" "_law_net" (defArgs s_l_net) (defBody s_l_net) (defScope s_l_net) .none kV10 dc10 pm10 an10 cd10 ct10), sl10⟩)
    (c10 : PySem.W.codeIn K cd10 "_law_net" = true)
    (k10 : PySem.W.keepIn K (.ref f10) = true)
    (a11 : PySem.W.nsIn K mainGlobals "checksum" = some (some (.ref f11)))
    (l11 : K.lookup f11 = some ⟨oc11, od11, .func (PySem.W.fnOf "checksum" "checksum" (defArgs s_checksum) (defBody s_checksum) (defScope s_checksum) .none kV11 dc11 pm11 an11 cd11 ct11), sl11⟩)
    (c11 : PySem.W.codeIn K cd11 "checksum" = true)
    (k11 : PySem.W.keepIn K (.ref f11) = true)
    (a12 : PySem.W.nsIn K mainGlobals "encode" = some (some (.ref f12)))
    (l12 : K.lookup f12 = some ⟨oc12, od12, .func (PySem.W.fnOf "encode" "encode" (defArgs s_encode) (defBody s_encode) (defScope s_encode) .none kV12 dc12 pm12 an12 cd12 ct12), sl12⟩)
    (c12 : PySem.W.codeIn K cd12 "encode" = true)
    (k12 : PySem.W.keepIn K (.ref f12) = true)
    (a13 : PySem.W.nsIn K mainGlobals "read_byte" = some (some (.ref f13)))
    (l13 : K.lookup f13 = some ⟨oc13, od13, .func (PySem.W.fnOf "read_byte" "read_byte" (defArgs s_read_byte) (defBody s_read_byte) (defScope s_read_byte) .none kV13 dc13 pm13 an13 cd13 ct13), sl13⟩)
    (c13 : PySem.W.codeIn K cd13 "read_byte" = true)
    (k13 : PySem.W.keepIn K (.ref f13) = true)
    (a14 : PySem.W.nsIn K mainGlobals "read_order" = some (some (.ref f14)))
    (l14 : K.lookup f14 = some ⟨oc14, od14, .func (PySem.W.fnOf "read_order" "read_order" (defArgs s_read_order) (defBody s_read_order) (defScope s_read_order) .none kV14 dc14 pm14 an14 cd14 ct14), sl14⟩)
    (c14 : PySem.W.codeIn K cd14 "read_order" = true)
    (k14 : PySem.W.keepIn K (.ref f14) = true)
    (a15 : PySem.W.nsIn K mainGlobals "decode" = some (some (.ref f15)))
    (l15 : K.lookup f15 = some ⟨oc15, od15, .func (PySem.W.fnOf "decode" "decode" (defArgs s_decode) (defBody s_decode) (defScope s_decode) .none kV15 dc15 pm15 an15 cd15 ct15), sl15⟩)
    (c15 : PySem.W.codeIn K cd15 "decode" = true)
    (k15 : PySem.W.keepIn K (.ref f15) = true)
    (a16 : PySem.W.nsIn K mainGlobals "_law_error_of" = some (some (.ref f16)))
    (l16 : K.lookup f16 = some ⟨oc16, od16, .func (PySem.W.fnOf "_law_error_of" "_law_error_of" (defArgs s_l_error_of) (defBody s_l_error_of) (defScope s_l_error_of) .none kV16 dc16 pm16 an16 cd16 ct16), sl16⟩)
    (c16 : PySem.W.codeIn K cd16 "_law_error_of" = true)
    (k16 : PySem.W.keepIn K (.ref f16) = true)
    (a17 : PySem.W.nsIn K mainGlobals "law" = some (some (.ref f17)))
    (l17 : K.lookup f17 = some ⟨oc17, od17, .func (PySem.W.fnOf "law" "law" (defArgs s_law) (defBody s_law) (defScope s_law) .none kV17 dc17 pm17 an17 (.ref cL) ct17), sl17⟩)
    (c17 : PySem.W.codeIn K (.ref cL) "law" = true)
    (k17 : PySem.W.keepIn K (.ref f17) = true)
    (a18 : PySem.W.findIn K (.ref C_Net) "__init__" = some (some (.ref f18)))
    (i18 : PySem.W.isFn K (.ref f18) = true)
    (l18 : K.lookup f18 = some ⟨oc18, od18, .func (PySem.W.fnOf "__init__" "Net.__init__" (defArgs s_Net_init) (defBody s_Net_init) (defScope s_Net_init) .none kV18 dc18 pm18 an18 cd18 ct18), sl18⟩)
    (c18 : PySem.W.codeIn K cd18 "Net.__init__" = true)
    (k18 : PySem.W.keepIn K (.ref f18) = true)
    (pgNet : PySem.W.plainGet K C_Net Str.empty = true)
    (hdNet : PySem.W.hasDictIn K C_Net = true)
    (poNet : PySem.W.plainOver K C_Net = true)
    (saNet : PySem.W.findIn K (.ref C_Net) "__setattr__" = some (some (.builtin "object.__setattr__")))
    (mkNet : PySem.W.makesIn K C_Net = true)
    (kcNet : PySem.W.keepIn K (.ref C_Net) = true)
    (nNet_period : PySem.W.findIn K (.ref C_Net) "period" = some none)
    (nNet_houses : PySem.W.findIn K (.ref C_Net) "houses" = some none)
    (nNet_orders : PySem.W.findIn K (.ref C_Net) "orders" = some none)
    (nNet_followed : PySem.W.findIn K (.ref C_Net) "followed" = some none)
    (vLONGEST_PERIOD : PySem.W.nsIn K mainGlobals "LONGEST_PERIOD" = some (some (.int 30 tkLONGEST_PERIOD)))
    (vMOST_HOUSES : PySem.W.nsIn K mainGlobals "MOST_HOUSES" = some (some (.int 10 tkMOST_HOUSES)))
    (vMOST_ORDERS : PySem.W.nsIn K mainGlobals "MOST_ORDERS" = some (some (.int 20 tkMOST_ORDERS)))
    (vLONGEST_DELAY : PySem.W.nsIn K mainGlobals "LONGEST_DELAY" = some (some (.int 9 tkLONGEST_DELAY)))
    (vFIRST_BYTE : PySem.W.nsIn K mainGlobals "FIRST_BYTE" = some (some (.int 78 tkFIRST_BYTE)))
    (vHEAD_LENGTH : PySem.W.nsIn K mainGlobals "HEAD_LENGTH" = some (some (.int 4 tkHEAD_LENGTH)))
    (vORDER_LENGTH : PySem.W.nsIn K mainGlobals "ORDER_LENGTH" = some (some (.int 5 tkORDER_LENGTH)))
    (zlen : PySem.W.nsIn K mainGlobals "len" = some none)
    (zrange : PySem.W.nsIn K mainGlobals "range" = some none)
    (zisinstance : PySem.W.nsIn K mainGlobals "isinstance" = some none)
    (zint : PySem.W.nsIn K mainGlobals "int" = some none)
    (zbool : PySem.W.nsIn K mainGlobals "bool" = some none)
    (zstr : PySem.W.nsIn K mainGlobals "str" = some none)
    (ztuple : PySem.W.nsIn K mainGlobals "tuple" = some none)
    (zlist : PySem.W.nsIn K mainGlobals "list" = some none)
    (zall : PySem.W.nsIn K mainGlobals "all" = some none)
    (zabs : PySem.W.nsIn K mainGlobals "abs" = some none)
    (zenumerate : PySem.W.nsIn K mainGlobals "enumerate" = some none)
    (zsum : PySem.W.nsIn K mainGlobals "sum" = some none)
    (tl : K.lookup cL = some ⟨ecL, dcL, .fields vsL, slcL⟩)
    (t11 : vsL[11]? = some (.ref PL))
    (tP : K.lookup PL = none)
    (th : PySem.W.codeHdIn K cL PL = true)
    (gEP : PySem.W.nsIn K mainGlobals "PostError" = some (some (.ref CP)))
    (iEP : PySem.W.isClsIn K CP = true)
    (tEP : PySem.W.typeIn K (.ref CP) = some (.type "type"))
    (bEP : PySem.W.subIn K (.ref CP) (.type "BaseException") = some true)
    (zVE : PySem.W.nsIn K mainGlobals "ValueError" = some none)
    (gE0 : PySem.W.nsIn K mainGlobals "InvalidDay" = some (some (.ref E0)))
    (iE0 : PySem.W.isClsIn K E0 = true)
    (tE0 : PySem.W.typeIn K (.ref E0) = some (.type "type"))
    (gE1 : PySem.W.nsIn K mainGlobals "UnknownHouse" = some (some (.ref E1)))
    (iE1 : PySem.W.isClsIn K E1 = true)
    (tE1 : PySem.W.typeIn K (.ref E1) = some (.type "type"))
    (gE2 : PySem.W.nsIn K mainGlobals "UnknownOrder" = some (some (.ref E2)))
    (iE2 : PySem.W.isClsIn K E2 = true)
    (tE2 : PySem.W.typeIn K (.ref E2) = some (.type "type"))
    (gE3 : PySem.W.nsIn K mainGlobals "InvalidLimit" = some (some (.ref E3)))
    (iE3 : PySem.W.isClsIn K E3 = true)
    (tE3 : PySem.W.typeIn K (.ref E3) = some (.type "type"))
    (gE4 : PySem.W.nsIn K mainGlobals "InvalidOrder" = some (some (.ref E4)))
    (iE4 : PySem.W.isClsIn K E4 = true)
    (tE4 : PySem.W.typeIn K (.ref E4) = some (.type "type"))
    (gE5 : PySem.W.nsIn K mainGlobals "TooManyOrders" = some (some (.ref E5)))
    (iE5 : PySem.W.isClsIn K E5 = true)
    (tE5 : PySem.W.typeIn K (.ref E5) = some (.type "type"))
    (gE6 : PySem.W.nsIn K mainGlobals "TooLong" = some (some (.ref E6)))
    (iE6 : PySem.W.isClsIn K E6 = true)
    (tE6 : PySem.W.typeIn K (.ref E6) = some (.type "type"))
    (gE7 : PySem.W.nsIn K mainGlobals "InvalidResult" = some (some (.ref E7)))
    (iE7 : PySem.W.isClsIn K E7 = true)
    (tE7 : PySem.W.typeIn K (.ref E7) = some (.type "type"))
    (gE8 : PySem.W.nsIn K mainGlobals "Contradiction" = some (some (.ref E8)))
    (iE8 : PySem.W.isClsIn K E8 = true)
    (tE8 : PySem.W.typeIn K (.ref E8) = some (.type "type"))
    (gE9 : PySem.W.nsIn K mainGlobals "InvalidName" = some (some (.ref E9)))
    (iE9 : PySem.W.isClsIn K E9 = true)
    (tE9 : PySem.W.typeIn K (.ref E9) = some (.type "type"))
    (gE10 : PySem.W.nsIn K mainGlobals "UnknownName" = some (some (.ref E10)))
    (iE10 : PySem.W.isClsIn K E10 = true)
    (tE10 : PySem.W.typeIn K (.ref E10) = some (.type "type"))
    (gE11 : PySem.W.nsIn K mainGlobals "InvalidNet" = some (some (.ref E11)))
    (iE11 : PySem.W.isClsIn K E11 = true)
    (tE11 : PySem.W.typeIn K (.ref E11) = some (.type "type"))
    (gE12 : PySem.W.nsIn K mainGlobals "TextFault" = some (some (.ref E12)))
    (iE12 : PySem.W.isClsIn K E12 = true)
    (tE12 : PySem.W.typeIn K (.ref E12) = some (.type "type"))
    (gE13 : PySem.W.nsIn K mainGlobals "InvalidCode" = some (some (.ref E13)))
    (iE13 : PySem.W.isClsIn K E13 = true)
    (tE13 : PySem.W.typeIn K (.ref E13) = some (.type "type"))
    (gE14 : PySem.W.nsIn K mainGlobals "InvalidOperation" = some (some (.ref E14)))
    (iE14 : PySem.W.isClsIn K E14 = true)
    (tE14 : PySem.W.typeIn K (.ref E14) = some (.type "type"))
    (heN : PySem.W.specialIn K (.builtin "object.__class__") "__get__" = some (some (.builtin "getset_descriptor.__get__")))
    (heT : PySem.W.takesIn K (.builtin "object.__class__") = some true)
    (sE13_0 : PySem.W.subIn K (.ref E13) (.ref E0) = some false)
    (sE13_1 : PySem.W.subIn K (.ref E13) (.ref E1) = some false)
    (sE13_2 : PySem.W.subIn K (.ref E13) (.ref E2) = some false)
    (sE13_3 : PySem.W.subIn K (.ref E13) (.ref E3) = some false)
    (sE13_4 : PySem.W.subIn K (.ref E13) (.ref E4) = some false)
    (sE13_5 : PySem.W.subIn K (.ref E13) (.ref E5) = some false)
    (sE13_6 : PySem.W.subIn K (.ref E13) (.ref E6) = some false)
    (sE13_7 : PySem.W.subIn K (.ref E13) (.ref E7) = some false)
    (sE13_8 : PySem.W.subIn K (.ref E13) (.ref E8) = some false)
    (sE13_9 : PySem.W.subIn K (.ref E13) (.ref E9) = some false)
    (sE13_10 : PySem.W.subIn K (.ref E13) (.ref E10) = some false)
    (sE13_11 : PySem.W.subIn K (.ref E13) (.ref E11) = some false)
    (sE13_12 : PySem.W.subIn K (.ref E13) (.ref E12) = some false)
    (sE13_13 : PySem.W.subIn K (.ref E13) (.ref E13) = some true)
    (sE13_14 : PySem.W.subIn K (.ref E13) (.ref E14) = some false)
    (sE13_P : PySem.W.subIn K (.ref E13) (.ref CP) = some true)
    (bE13 : PySem.W.subIn K (.ref E13) (.type "BaseException") = some true)
    (vE13 : PySem.W.subIn K (.ref E13) (.type "ValueError") = some true)
    (kE13 : PySem.W.keepIn K (.ref E13) = true)
    (h1E13 : PySem.W.findIn K (.ref E13) "__getattribute__" = some (some (.builtin "BaseException.__getattribute__")))
    (h2E13 : PySem.W.findIn K (.ref E13) "__getattr__" = some none)
    (h3E13 : PySem.W.hasDictIn K E13 = true)
    (h4E13 : PySem.W.findIn K (.ref E13) "__class__" = some (some (.builtin "object.__class__")))
    (h5E13 : PySem.W.mroIn K E13 (.type "object") = some true)
    (supG : PySem.W.nsIn K mainGlobals "super" = some none)
    (supT : (l.prog.main.scope.names.lookup ("super" : Str)).isSome = false)
    (supA : PySem.W.nsIn K cStatics "thirdparty.any" = some none)
    (iS13 : PySem.W.findIn K (.ref E13) "__init__" = some (some (.ref fS13)))
    (tS13 : PySem.W.typeIn K (.ref fS13) = some (.type "function"))
    (lS13 : K.lookup fS13 = some ⟨ocS13, odS13, .func (PySem.W.ksFn "__init__" "InvalidCode.__init__" (defArgs s_InvalidCode_init) (defBody s_InvalidCode_init) (defScope s_InvalidCode_init) .none kVS13 dcS13 pmS13 anS13 (.ref cdaS13) ctS13 ccS13), slS13⟩)
    (cS13 : PySem.W.codeIn K (.ref cdaS13) "InvalidCode.__init__" = true)
    (xS13 : K.lookup cdaS13 = some ⟨cclS13, cddS13, .fields vsS13, ccsS13⟩)
    (yS13 : vsS13[2]? = some (.str fileS13 tfS13))
    (zS13 : ((l.prog.main.file : Str) == fileS13) = true)
    (eS13 : K.lookup ccS13 = some ⟨clS13, cldS13, .cell (some (.ref E13)), cslS13⟩)
    (oS13 : oexB K E13 = true)
    (sS13 : PySem.W.findIn K (.ref E13) "__setattr__" = some (some (.builtin "object.__setattr__")))
    (mS13 : PySem.W.mroIn K E13 (.ref E13) = some true)
    (uS13 : PySem.W.ks_superIn K E13 E13 "__init__" = some (some (.builtin "ValueError.__init__")))
    (nS13_place : PySem.W.findIn K (.ref E13) "place" = some none)
    : LamX.LawAtS l w K CX0 9 63 "_law_script" mg fa h := by
  have e := hfa.symm.trans (PySem.W.mg_of X G a17)
  cases e
  have G_Net := PySem.W.mg_of X G aCNet
  have T_Net : NetT K C_Net := ⟨⟨pgNet, hdNet, poNet, saNet⟩, nNet_period, nNet_houses, nNet_orders, nNet_followed⟩
  have K_LONGEST_PERIOD : ∃ t, mg "LONGEST_PERIOD" = some (.int 30 t) := ⟨_, PySem.W.mg_of X G vLONGEST_PERIOD⟩
  have K_MOST_HOUSES : ∃ t, mg "MOST_HOUSES" = some (.int 10 t) := ⟨_, PySem.W.mg_of X G vMOST_HOUSES⟩
  have K_MOST_ORDERS : ∃ t, mg "MOST_ORDERS" = some (.int 20 t) := ⟨_, PySem.W.mg_of X G vMOST_ORDERS⟩
  have K_LONGEST_DELAY : ∃ t, mg "LONGEST_DELAY" = some (.int 9 t) := ⟨_, PySem.W.mg_of X G vLONGEST_DELAY⟩
  have K_FIRST_BYTE : ∃ t, mg "FIRST_BYTE" = some (.int 78 t) := ⟨_, PySem.W.mg_of X G vFIRST_BYTE⟩
  have K_HEAD_LENGTH : ∃ t, mg "HEAD_LENGTH" = some (.int 4 t) := ⟨_, PySem.W.mg_of X G vHEAD_LENGTH⟩
  have K_ORDER_LENGTH : ∃ t, mg "ORDER_LENGTH" = some (.int 5 t) := ⟨_, PySem.W.mg_of X G vORDER_LENGTH⟩
  have B : Blt mg := ⟨PySem.W.mg_none_of X G zlen, PySem.W.mg_none_of X G zrange, PySem.W.mg_none_of X G zisinstance, PySem.W.mg_none_of X G zint, PySem.W.mg_none_of X G zbool, PySem.W.mg_none_of X G zstr, PySem.W.mg_none_of X G ztuple, PySem.W.mg_none_of X G zlist, PySem.W.mg_none_of X G zall, PySem.W.mg_none_of X G zabs, PySem.W.mg_none_of X G zenumerate⟩
  have Z_sum : mg "sum" = none := PySem.W.mg_none_of X G zsum
  let cE : Nat → Addr := fun j => ([E0, E1, E2, E3, E4, E5, E6, E7, E8, E9, E10, E11, E12, E13, E14] : List Addr).getD j 0
  have ME : ErrM mg CP cE := ⟨PySem.W.mg_of X G gEP, PySem.W.mg_of X G gE0, PySem.W.mg_of X G gE1, PySem.W.mg_of X G gE2, PySem.W.mg_of X G gE3, PySem.W.mg_of X G gE4, PySem.W.mg_of X G gE5, PySem.W.mg_of X G gE6, PySem.W.mg_of X G gE7, PySem.W.mg_of X G gE8, PySem.W.mg_of X G gE9, PySem.W.mg_of X G gE10, PySem.W.mg_of X G gE11, PySem.W.mg_of X G gE12, PySem.W.mg_of X G gE13, PySem.W.mg_of X G gE14, PySem.W.mg_none_of X G zVE⟩
  have X_InvalidCode : Err15 K CP cE E13 13 := err15_mk (by decide) ⟨h1E13, h2E13, bE13, h3E13, h4E13, heN, heT, h5E13⟩ (exm_mk bEP iEP tEP sE13_P) vE13 rfl fun j hj => match j, hj with
    | 0, _ => ⟨iE0, tE0, sE13_0⟩
    | 1, _ => ⟨iE1, tE1, sE13_1⟩
    | 2, _ => ⟨iE2, tE2, sE13_2⟩
    | 3, _ => ⟨iE3, tE3, sE13_3⟩
    | 4, _ => ⟨iE4, tE4, sE13_4⟩
    | 5, _ => ⟨iE5, tE5, sE13_5⟩
    | 6, _ => ⟨iE6, tE6, sE13_6⟩
    | 7, _ => ⟨iE7, tE7, sE13_7⟩
    | 8, _ => ⟨iE8, tE8, sE13_8⟩
    | 9, _ => ⟨iE9, tE9, sE13_9⟩
    | 10, _ => ⟨iE10, tE10, sE13_10⟩
    | 11, _ => ⟨iE11, tE11, sE13_11⟩
    | 12, _ => ⟨iE12, tE12, sE13_12⟩
    | 13, _ => ⟨iE13, tE13, sE13_13⟩
    | 14, _ => ⟨iE14, tE14, sE13_14⟩
    | j + 15, h => absurd h (by omega)
  have TO_InvalidCode : OexC K E13 := oex_mk oS13 sS13 bE13 tE13 kE13
  have XF_InvalidCode : XfC K E13 := ⟨h1E13, h2E13, bE13, h3E13⟩
  have SC_InvalidCode : SupC K E13 E13 := ⟨mS13, uS13, vE13⟩
  have SI_InvalidCode := (⟨⟨_, _, _, lS13⟩, ⟨_, rfl, rfl⟩, ⟨_, _, _, _, _, _, xS13, yS13, zS13⟩, ⟨_, _, _, eS13⟩, oex_cls oS13, PySem.W.mg_none_of X G supG, supT, supA, ⟨rfl, rfl, rfl, rfl⟩⟩ : SupI l.prog K mg (defScope s_InvalidCode_init) fS13 cdaS13 ccS13 E13 _)
  have FS_InvalidCode := (⟨_, _, _, _, _, _, _, _, rfl, lS13, cS13⟩ : FunS K "InvalidCode.__init__" s_InvalidCode_init fS13 cdaS13 ccS13 _)
  have BS_InvalidCode := (Binds.all fun us hl => match us, hl with | [_, _], _ => rfl : Binds K (PySem.W.ksFn "__init__" "InvalidCode.__init__" (defArgs s_InvalidCode_init) (defBody s_InvalidCode_init) (defScope s_InvalidCode_init) .none kVS13 dcS13 pmS13 anS13 (.ref cdaS13) ctS13 ccS13) P_InvalidCode_init [])
  have G_is_integer := PySem.W.mg_of X G a1
  have F_is_integer := fun_mk (st := s_is_integer) l1 c1 k1
  have B_is_integer := F_is_integer.binds (ps := P_is_integer) fun _ _ _ _ _ _ us hl => match us, hl with | [_], _ => rfl
  have G_is_within := PySem.W.mg_of X G a2
  have F_is_within := fun_mk (st := s_is_within) l2 c2 k2
  have B_is_within := F_is_within.binds (ps := P_is_within) fun _ _ _ _ _ _ us hl => match us, hl with | [_, _, _], _ => rfl
  have G_is_order := PySem.W.mg_of X G a3
  have F_is_order := fun_mk (st := s_is_order) l3 c3 k3
  have B_is_order := F_is_order.binds (ps := P_is_order) fun _ _ _ _ _ _ us hl => match us, hl with | [_, _, _], _ => rfl
  have G_check_orders := PySem.W.mg_of X G a4
  have F_check_orders := fun_mk (st := s_check_orders) l4 c4 k4
  have B_check_orders := F_check_orders.binds (ps := P_check_orders) fun _ _ _ _ _ _ us hl => match us, hl with | [_, _, _], _ => rfl
  have G_find_followed := PySem.W.mg_of X G a5
  have F_find_followed := fun_mk (st := s_find_followed) l5 c5 k5
  have B_find_followed := F_find_followed.binds (ps := P_find_followed) fun _ _ _ _ _ _ us hl => match us, hl with | [_, _, _], _ => rfl
  have G_l_random := PySem.W.mg_of X G a6
  have F_l_random := fun_mk (st := s_l_random) l6 c6 k6
  have B_l_random := F_l_random.binds (ps := P_l_random) fun _ _ _ _ _ _ us hl => match us, hl with | [_, _], _ => rfl
  have G_l_below := PySem.W.mg_of X G a7
  have F_l_below := fun_mk (st := s_l_below) l7 c7 k7
  have B_l_below := F_l_below.binds (ps := P_l_below) fun _ _ _ _ _ _ us hl => match us, hl with | [_, _], _ => rfl
  have G_l_order := PySem.W.mg_of X G a8
  have F_l_order := fun_mk (st := s_l_order) l8 c8 k8
  have B_l_order := F_l_order.binds (ps := P_l_order) fun _ _ _ _ _ _ us hl => match us, hl with | [_, _, _], _ => rfl
  have G_l_small := PySem.W.mg_of X G a9
  have F_l_small := fun_mk (st := s_l_small) l9 c9 k9
  have B_l_small := F_l_small.binds (ps := P_l_small) fun _ _ _ _ _ _ us hl => match us, hl with | [_], _ => rfl
  have G_l_net := PySem.W.mg_of X G a10
  have F_l_net := fun_mk (st := s_l_net) l10 c10 k10
  have B_l_net := F_l_net.binds (ps := P_l_net) fun _ _ _ _ _ _ us hl => match us, hl with | [_], _ => rfl
  have G_checksum := PySem.W.mg_of X G a11
  have F_checksum := fun_mk (st := s_checksum) l11 c11 k11
  have B_checksum := F_checksum.binds (ps := P_checksum) fun _ _ _ _ _ _ us hl => match us, hl with | [_], _ => rfl
  have G_encode := PySem.W.mg_of X G a12
  have F_encode := fun_mk (st := s_encode) l12 c12 k12
  have B_encode := F_encode.binds (ps := P_encode) fun _ _ _ _ _ _ us hl => match us, hl with | [_], _ => rfl
  have G_read_byte := PySem.W.mg_of X G a13
  have F_read_byte := fun_mk (st := s_read_byte) l13 c13 k13
  have B_read_byte := F_read_byte.binds (ps := P_read_byte) fun _ _ _ _ _ _ us hl => match us, hl with | [_, _, _, _], _ => rfl
  have G_read_order := PySem.W.mg_of X G a14
  have F_read_order := fun_mk (st := s_read_order) l14 c14 k14
  have B_read_order := F_read_order.binds (ps := P_read_order) fun _ _ _ _ _ _ us hl => match us, hl with | [_, _, _, _], _ => rfl
  have G_decode := PySem.W.mg_of X G a15
  have F_decode := fun_mk (st := s_decode) l15 c15 k15
  have B_decode := F_decode.binds (ps := P_decode) fun _ _ _ _ _ _ us hl => match us, hl with | [_], _ => rfl
  have G_l_error_of := PySem.W.mg_of X G a16
  have F_l_error_of := fun_mk (st := s_l_error_of) l16 c16 k16
  have B_l_error_of := F_l_error_of.binds (ps := P_l_error_of) fun _ _ _ _ _ _ us hl => match us, hl with | [_], _ => rfl
  have G_law := PySem.W.mg_of X G a17
  have F_law : FunC K "law" "law" s_law fa _ cL := ⟨_, _, _, _, _, _, _, _, rfl, l17, c17⟩
  have F_Net_init := fun_mk (st := s_Net_init) l18 c18 k18
  have B_Net_init := F_Net_init.binds (ps := P_Net_init) fun _ _ _ _ _ _ us hl => match us, hl with | [_, _, _, _], _ => rfl
  have M_Net_init : Mk K C_Net f18 := ⟨mkNet, a18, i18, kcNet⟩
  refine ⟨PySem.W.fnOf "law" "law" (defArgs s_law) (defBody s_law) (defScope s_law) .none kV17 dc17 pm17 an17 (.ref cL) ct17, [(cL, PL)], spLawT K PL, fun p hp => ?_, fun p hp => ?_, fun p hp => ?_, fun s v => .of_eq rfl, fun H a ns hl _ hT hS => ⟨a, ns, rfl, hS, hl, hT _ List.mem_cons_self, fun _ => rfl⟩, fun base _ _ hTB => ?_⟩
  · rw [List.mem_singleton.mp hp]
    exact own cL PL _ _ _ _ _ _ l17 rfl rfl tl t11
  · rw [List.mem_singleton.mp hp]
    exact tP
  · rw [List.mem_singleton.mp hp]
    exact PySem.W.codeHd_of_K X th
  have TBl := hTB (cL, PL) List.mem_cons_self
  have D_isint : Df l.prog w K mg base "is_integer" 1 P_is_integer (spIsInt K) := ⟨_, _, G_is_integer, F_is_integer.kp, B_is_integer, ok_isint F_is_integer B⟩
  have D_within : Df l.prog w K mg base "is_within" 2 P_is_within (spWithin K) := ⟨_, _, G_is_within, F_is_within.kp, B_is_within, ok_within F_is_within D_isint⟩
  have D_order : Df l.prog w K mg base "is_order" 3 P_is_order (spIsOrder K) := ⟨_, _, G_is_order, F_is_order.kp, B_is_order, ok_is_order F_is_order B D_within K_LONGEST_DELAY⟩
  have D_chk : Df l.prog w K mg base "check_orders" 4 P_check_orders spChkOrders := ⟨_, _, G_check_orders, F_check_orders.kp, B_check_orders, ok_chk_orders F_check_orders B D_order K_MOST_ORDERS⟩
  have D_fol : Df l.prog w K mg base "find_followed" 2 P_find_followed spFollowed := ⟨_, _, G_find_followed, F_find_followed.kp, B_find_followed, ok_followed F_find_followed B⟩
  have D_rnd : Df l.prog w K mg base "_law_random" 2 P_l_random (spRandom K) := ⟨_, _, G_l_random, F_l_random.kp, B_l_random, ok_random F_l_random B⟩
  have D_bel : Df l.prog w K mg base "_law_below" 2 P_l_below spBelow := ⟨_, _, G_l_below, F_l_below.kp, B_l_below, ok_below F_l_below B.len⟩
  have D_ord : Df l.prog w K mg base "_law_order" 3 P_l_order spOrder := ⟨_, _, G_l_order, F_l_order.kp, B_l_order, ok_order F_l_order D_bel⟩
  have D_sml : Df l.prog w K mg base "_law_small" 4 P_l_small spSmall := ⟨_, _, G_l_small, F_l_small.kp, B_l_small, ok_small F_l_small B D_bel D_ord⟩
  have O_init : FnOk l.prog w K mg base CX0 5 _ _ P_Net_init (spInit C_Net) := ok_init F_Net_init T_Net D_within D_chk D_fol K_LONGEST_PERIOD K_MOST_HOUSES
  have D_net : Df l.prog w K mg base "_law_net" 7 P_l_net (spNet C_Net) := ⟨_, _, G_l_net, F_l_net.kp, B_l_net, ok_net F_l_net M_Net_init G_Net O_init B_Net_init⟩
  have D_cs : Df l.prog w K mg base "checksum" 1 P_checksum (spCheckS K) := ⟨_, _, G_checksum, F_checksum.kp, B_checksum, ok_checksum F_checksum Z_sum⟩
  have D_en : Df l.prog w K mg base "encode" 2 P_encode (spEncode C_Net) := ⟨_, _, G_encode, F_encode.kp, B_encode, ok_encode F_encode B T_Net K_FIRST_BYTE D_cs⟩
  have D_by : Df l.prog w K mg base "read_byte" 3 P_read_byte spByte := ⟨_, _, G_read_byte, F_read_byte.kp, B_read_byte, ok_byte F_read_byte B D_within⟩
  have D_rb : Df l.prog w K mg base "read_order" 4 P_read_order spROrd := ⟨_, _, G_read_order, F_read_order.kp, B_read_order, ok_rord F_read_order K_LONGEST_DELAY D_by⟩
  have O_dec : FnOk l.prog w K mg base CX0 7 _ _ P_decode (spDecode C_Net) := ok_decode F_decode B M_Net_init G_Net O_init B_Net_init K_FIRST_BYTE K_LONGEST_PERIOD K_MOST_HOUSES K_MOST_ORDERS K_HEAD_LENGTH K_ORDER_LENGTH D_by D_rb D_cs
  have NE : OneErr l.prog w K mg base "InvalidCode" "place" P_InvalidCode_init E13 := ⟨PySem.W.mg_of X G gE13, TO_InvalidCode, SC_InvalidCode, nS13_place, _, _, iS13, tS13, ok_codeerr FS_InvalidCode SI_InvalidCode, BS_InvalidCode⟩
  have O_byx : FnOk l.prog w K mg base (L2.CX l.prog w) 4 _ _ P_read_byte (spByteE K E13) := ok_byteE F_read_byte B NE D_within
  have O_rox : FnOk l.prog w K mg base (L2.CX l.prog w) 5 _ _ P_read_order (spROrdE K E13) := ok_rordE F_read_order NE K_LONGEST_DELAY G_read_byte F_read_byte.kp B_read_byte O_byx
  have O_dex : FnOk l.prog w K mg base (L2.CX l.prog w) 6 _ _ P_decode (spDecodeX K E13) := ok_decodeX F_decode B NE K_FIRST_BYTE K_LONGEST_PERIOD K_MOST_HOUSES K_MOST_ORDERS K_HEAD_LENGTH K_ORDER_LENGTH G_read_byte F_read_byte.kp B_read_byte O_byx G_read_order F_read_order.kp B_read_order O_rox D_cs
  exact ok_law F_law TBl B Z_sum T_Net F_l_error_of G_l_error_of F_l_error_of.kp B_l_error_of ME X_InvalidCode XF_InvalidCode nS13_place D_rnd D_bel D_sml D_net D_en G_decode F_decode.kp B_decode O_dec O_dex
end Cp
open PySem PySem.W PyProof.Rows
set_option maxRecDepth 100000 in
set_option maxHeartbeats 0 in
theorem PySem.Challenge.cw_chasepost_k20_invalid_bytes_holds : PySem.Challenge.rw_chasepost_k20_invalid_bytes.Holds := by
  w_on; o_law; k_head; (case hw => w_witness2)
  k_fill
  refine LamX.walk_ofOwn (l := PySem.Challenge.rw_chasepost_k20_invalid_bytes) (n := 63) (k := 9) (x := "_law_script") (CX := fun _ => L2.CX0) rfl (by decide) rfl ⟨rfl, by decide, by decide⟩ (by decide +kernel) (fun w h Y => PySem.W.km_in_of Y) ?F (fun _ _ _ _ _ h => h)
  case F =>
    intro w mg fa h Y KX G hmg own
    refine' Cp.all_mk KX G hmg own ?aCNet ?a1 ?l1 ?c1 ?k1 ?a2 ?l2 ?c2 ?k2 ?a3 ?l3 ?c3 ?k3 ?a4 ?l4 ?c4 ?k4 ?a5 ?l5 ?c5 ?k5 ?a6 ?l6 ?c6 ?k6 ?a7 ?l7 ?c7 ?k7 ?a8 ?l8 ?c8 ?k8 ?a9 ?l9 ?c9 ?k9 ?a10 ?l10 ?c10 ?k10 ?a11 ?l11 ?c11 ?k11 ?a12 ?l12 ?c12 ?k12 ?a13 ?l13 ?c13 ?k13 ?a14 ?l14 ?c14 ?k14 ?a15 ?l15 ?c15 ?k15 ?a16 ?l16 ?c16 ?k16 ?a17 ?l17 ?c17 ?k17 ?a18 ?i18 ?l18 ?c18 ?k18 ?pgNet ?hdNet ?poNet ?saNet ?mkNet ?kcNet ?nNet_period ?nNet_houses ?nNet_orders ?nNet_followed ?vLONGEST_PERIOD ?vMOST_HOUSES ?vMOST_ORDERS ?vLONGEST_DELAY ?vFIRST_BYTE ?vHEAD_LENGTH ?vORDER_LENGTH ?zlen ?zrange ?zisinstance ?zint ?zbool ?zstr ?ztuple ?zlist ?zall ?zabs ?zenumerate ?zsum ?tl ?t11 ?tP ?th ?gEP ?iEP ?tEP ?bEP ?zVE ?gE0 ?iE0 ?tE0 ?gE1 ?iE1 ?tE1 ?gE2 ?iE2 ?tE2 ?gE3 ?iE3 ?tE3 ?gE4 ?iE4 ?tE4 ?gE5 ?iE5 ?tE5 ?gE6 ?iE6 ?tE6 ?gE7 ?iE7 ?tE7 ?gE8 ?iE8 ?tE8 ?gE9 ?iE9 ?tE9 ?gE10 ?iE10 ?tE10 ?gE11 ?iE11 ?tE11 ?gE12 ?iE12 ?tE12 ?gE13 ?iE13 ?tE13 ?gE14 ?iE14 ?tE14 ?heN ?heT ?sE13_0 ?sE13_1 ?sE13_2 ?sE13_3 ?sE13_4 ?sE13_5 ?sE13_6 ?sE13_7 ?sE13_8 ?sE13_9 ?sE13_10 ?sE13_11 ?sE13_12 ?sE13_13 ?sE13_14 ?sE13_P ?bE13 ?vE13 ?kE13 ?h1E13 ?h2E13 ?h3E13 ?h4E13 ?h5E13 ?supG ?supT ?supA ?iS13 ?tS13 ?lS13 ?cS13 ?xS13 ?yS13 ?zS13 ?eS13 ?oS13 ?sS13 ?mS13 ?uS13 ?nS13_place
    (case aCNet => k_is)
    (case a1 => k_is)
    (case l1 => k_is)
    (case c1 => k_is)
    (case k1 => k_is)
    (case a2 => k_is)
    (case l2 => k_is)
    (case c2 => k_is)
    (case k2 => k_is)
    (case a3 => k_is)
    (case l3 => k_is)
    (case c3 => k_is)
    (case k3 => k_is)
    (case a4 => k_is)
    (case l4 => k_is)
    (case c4 => k_is)
    (case k4 => k_is)
    (case a5 => k_is)
    (case l5 => k_is)
    (case c5 => k_is)
    (case k5 => k_is)
    (case a6 => k_is)
    (case l6 => k_is)
    (case c6 => k_is)
    (case k6 => k_is)
    (case a7 => k_is)
    (case l7 => k_is)
    (case c7 => k_is)
    (case k7 => k_is)
    (case a8 => k_is)
    (case l8 => k_is)
    (case c8 => k_is)
    (case k8 => k_is)
    (case a9 => k_is)
    (case l9 => k_is)
    (case c9 => k_is)
    (case k9 => k_is)
    (case a10 => k_is)
    (case l10 => k_is)
    (case c10 => k_is)
    (case k10 => k_is)
    (case a11 => k_is)
    (case l11 => k_is)
    (case c11 => k_is)
    (case k11 => k_is)
    (case a12 => k_is)
    (case l12 => k_is)
    (case c12 => k_is)
    (case k12 => k_is)
    (case a13 => k_is)
    (case l13 => k_is)
    (case c13 => k_is)
    (case k13 => k_is)
    (case a14 => k_is)
    (case l14 => k_is)
    (case c14 => k_is)
    (case k14 => k_is)
    (case a15 => k_is)
    (case l15 => k_is)
    (case c15 => k_is)
    (case k15 => k_is)
    (case a16 => k_is)
    (case l16 => k_is)
    (case c16 => k_is)
    (case k16 => k_is)
    (case a17 => k_is)
    (case l17 => k_is)
    (case c17 => k_is)
    (case k17 => k_is)
    (case a18 => k_is)
    (case i18 => k_is)
    (case l18 => k_is)
    (case c18 => k_is)
    (case k18 => k_is)
    (case pgNet => k_is)
    (case hdNet => k_is)
    (case poNet => k_is)
    (case saNet => k_is)
    (case mkNet => k_is)
    (case kcNet => k_is)
    (case nNet_period => k_is)
    (case nNet_houses => k_is)
    (case nNet_orders => k_is)
    (case nNet_followed => k_is)
    (case vLONGEST_PERIOD => k_is)
    (case vMOST_HOUSES => k_is)
    (case vMOST_ORDERS => k_is)
    (case vLONGEST_DELAY => k_is)
    (case vFIRST_BYTE => k_is)
    (case vHEAD_LENGTH => k_is)
    (case vORDER_LENGTH => k_is)
    (case zlen => k_is)
    (case zrange => k_is)
    (case zisinstance => k_is)
    (case zint => k_is)
    (case zbool => k_is)
    (case zstr => k_is)
    (case ztuple => k_is)
    (case zlist => k_is)
    (case zall => k_is)
    (case zabs => k_is)
    (case zenumerate => k_is)
    (case zsum => k_is)
    (case tl => k_is)
    (case t11 => rfl)
    (case tP => first | rfl | decide +kernel)
    (case th => first | rfl | decide +kernel)
    (case gEP => k_is)
    (case iEP => k_is)
    (case tEP => k_is)
    (case bEP => k_is)
    (case zVE => k_is)
    (case gE0 => k_is)
    (case iE0 => k_is)
    (case tE0 => k_is)
    (case gE1 => k_is)
    (case iE1 => k_is)
    (case tE1 => k_is)
    (case gE2 => k_is)
    (case iE2 => k_is)
    (case tE2 => k_is)
    (case gE3 => k_is)
    (case iE3 => k_is)
    (case tE3 => k_is)
    (case gE4 => k_is)
    (case iE4 => k_is)
    (case tE4 => k_is)
    (case gE5 => k_is)
    (case iE5 => k_is)
    (case tE5 => k_is)
    (case gE6 => k_is)
    (case iE6 => k_is)
    (case tE6 => k_is)
    (case gE7 => k_is)
    (case iE7 => k_is)
    (case tE7 => k_is)
    (case gE8 => k_is)
    (case iE8 => k_is)
    (case tE8 => k_is)
    (case gE9 => k_is)
    (case iE9 => k_is)
    (case tE9 => k_is)
    (case gE10 => k_is)
    (case iE10 => k_is)
    (case tE10 => k_is)
    (case gE11 => k_is)
    (case iE11 => k_is)
    (case tE11 => k_is)
    (case gE12 => k_is)
    (case iE12 => k_is)
    (case tE12 => k_is)
    (case gE13 => k_is)
    (case iE13 => k_is)
    (case tE13 => k_is)
    (case gE14 => k_is)
    (case iE14 => k_is)
    (case tE14 => k_is)
    (case heN => k_is)
    (case heT => k_is)
    (case sE13_0 => k_is)
    (case sE13_1 => k_is)
    (case sE13_2 => k_is)
    (case sE13_3 => k_is)
    (case sE13_4 => k_is)
    (case sE13_5 => k_is)
    (case sE13_6 => k_is)
    (case sE13_7 => k_is)
    (case sE13_8 => k_is)
    (case sE13_9 => k_is)
    (case sE13_10 => k_is)
    (case sE13_11 => k_is)
    (case sE13_12 => k_is)
    (case sE13_13 => k_is)
    (case sE13_14 => k_is)
    (case sE13_P => k_is)
    (case bE13 => k_is)
    (case vE13 => k_is)
    (case kE13 => k_is)
    (case h1E13 => k_is)
    (case h2E13 => k_is)
    (case h3E13 => k_is)
    (case h4E13 => k_is)
    (case h5E13 => k_is)
    (case supG => k_is)
    (case supT => first | rfl | decide +kernel)
    (case supA => k_is)
    (case iS13 => k_is)
    (case tS13 => k_is)
    (case lS13 => k_is)
    (case cS13 => k_is)
    (case xS13 => k_is)
    (case yS13 => first | rfl | decide +kernel)
    (case zS13 => first | rfl | decide +kernel)
    (case eS13 => k_is)
    (case oS13 => first | rfl | decide +kernel)
    (case sS13 => k_is)
    (case mS13 => k_is)
    (case uS13 => first | rfl | decide +kernel)
    (case nS13_place => k_is)
